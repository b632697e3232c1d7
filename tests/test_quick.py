"""The quicker ways against plain ones: sets of letters and pairs told depth by depth, partitions round by round."""

import unittest
from random import Random

from everydepth.alike import alike, alike_at, alike_from, parting
from everydepth.errors import anew
from everydepth.least import classes, least, telling_depth
from everydepth.orbits import MOST_SETS, LetterOrbit, PairOrbit, unlike_pairs
from everydepth.partings import UNLIKE, first_barred
from everydepth.pictures import coming, comes_at, first_coming, is_picture, last_coming
from everydepth.together import put, solved, within
from everydepth.turns import onto, symmetries, turned
from everydepth.walks import merged, numbered, split_by_halves
from tests.model import (
    LATE, NO_PICTURES, PARITY, STAIRS, chain, first_cell_where, letters_by_depth, made_pairs, made_picture,
    made_pictures, pairs_by_depth, renamed, ring, sparse_picture,
)
from tests.test_turns import turned_sheet

DEPTHS = 201


def set_at(sets, depth):
    """The set at any depth, of the list of the sets at first depths, among which one comes again."""
    if depth < len(sets):
        return sets[depth]
    last = len(sets) - 1
    back = next(at for at in range(last - 1, -1, -1) if sets[at] == sets[last])
    return sets[back + (depth - back) % (last - back)]


def great_depths(random):
    return [10 ** 30 + more for more in range(-7, 8)] + [random.randrange(10 ** random.randrange(3, 31)) for _ in range(9)]


def eight_letters(seed, many):
    """Made pictures of one to eight letters, half of them with letters that come seldom."""
    random = Random(seed)
    return [
        (sparse_picture if number % 2 else made_picture)(random, 2 + number % 3, random.randrange(1, 9))
        for number in range(many)]


def ring_of_rings(lengths):
    """A picture whose first letter leads into rings of such lengths, and in these from each letter to the next one."""
    shades = [0]
    blocks = []
    firsts = []
    for length in lengths:
        first = len(shades)
        firsts.append(first)
        shades += [1] + [0] * (length - 1)
        blocks += [((first + (at + 1) % length,) * 3,) * 3 for at in range(length)]
    firsts += [firsts[-1]] * (9 - len(firsts))
    block = tuple(tuple(firsts[row * 3:row * 3 + 3]) for row in range(3))
    return ((3, tuple(shades), (block, *blocks)), 0)


class LettersTest(unittest.TestCase):
    def test_comes_at_each_depth(self):
        random = Random(1)
        for picture in eight_letters(1, 60) + [chain(2, 7, (0, 1)), ring(4, [0] * 8)]:
            sets = letters_by_depth(picture, DEPTHS)
            depths = list(range(DEPTHS)) + great_depths(random)
            for letter in range(len(picture[0][1])):
                for depth in depths:
                    self.assertIs(comes_at(picture, letter, depth), letter in set_at(sets, depth), (letter, depth))

    def test_first_and_last_depths(self):
        for picture in eight_letters(2, 120) + made_pictures(2, 20):
            sets = letters_by_depth(picture, DEPTHS)
            self.assertEqual(coming(picture), sorted(set().union(*sets)))
            for letter in range(len(picture[0][1])):
                depths = [depth for depth, letters in enumerate(sets) if letter in letters]
                self.assertEqual(first_coming(picture, letter), depths[0] if depths else None)
                last = depths[-1] if depths and depths[-1] < DEPTHS // 2 else None
                self.assertEqual(last_coming(picture, letter), last)

    def test_sets_that_go_round_late(self):
        # 3 * 5 * 7 * 11 * 13 = 15015 depths go by until the same letters come.
        lengths = [3, 5, 7, 11, 13]
        picture = ring_of_rings(lengths)
        self.assertGreater(3 * 5 * 7 * 11 * 13, MOST_SETS)
        for depth in [1, 2, 70, 200, MOST_SETS - 1, MOST_SETS, MOST_SETS + 1, 15016, 10 ** 30 - 3, 10 ** 30]:
            first = 1
            for length in lengths:
                for at in range(length):
                    self.assertIs(comes_at(picture, first + at, depth), (depth - 1) % length == at)
                first += length
            self.assertIs(comes_at(picture, 0, depth), False)
        self.assertEqual([last_coming(picture, letter) for letter in (0, 1, 2, 39)], [0, None, None, None])
        # A letter ahead of the rings, and one that never comes.
        base, shades, blocks = picture[0]
        more = ((base, shades + (2, 3), blocks + (((0,) * 3,) * 3, ((1,) * 3,) * 3)), 40)
        self.assertEqual([last_coming(more, letter) for letter in (40, 0, 1, 41)], [0, 1, None, None])

    def test_plain_and_far_ways_agree(self):
        for picture in eight_letters(3, 30):
            orbit = LetterOrbit(picture)
            for depth in (0, 1, 2, 5, 64, 90, 10 ** 6 + 1):
                self.assertEqual(orbit._far(depth), orbit.at(depth))
            for letter in range(len(picture[0][1])):
                self.assertEqual(orbit._last_by_nodes(1 << letter), orbit.last_with(1 << letter))


class PairsTest(unittest.TestCase):
    def pairs(self):
        pictures = eight_letters(4, 42)
        random = Random(5)
        for at, one in enumerate(pictures):
            other = random.choice([picture for picture in pictures if picture[0][0] == one[0][0]])
            yield one, other
            yield one, renamed(one)
            if at % 3 == 0:
                yield one, (one[0], random.randrange(len(one[0][1])))
        yield ring(2, [0] * 7 + [1], 3), ring(2, [0] * 6 + [1])
        yield STAIRS, LATE

    def test_alike_at_each_depth(self):
        random = Random(6)
        found = set()
        for one, other in self.pairs():
            shades, others = one[0][1], other[0][1]
            sets = pairs_by_depth(one, other, DEPTHS)
            same = [all(shades[a] == others[b] for a, b in pairs) for pairs in sets]
            for depth in range(DEPTHS):
                self.assertIs(alike_at(one, other, depth), same[depth], depth)
            for depth in great_depths(random):
                wanted = all(shades[a] == others[b] for a, b in set_at(sets, depth))
                self.assertIs(alike_at(one, other, depth), wanted, depth)
            unlike = [depth for depth in range(DEPTHS) if not same[depth]]
            endless = bool(unlike) and unlike[-1] >= DEPTHS // 2
            self.assertEqual(alike_from(one, other), None if endless else unlike[-1] + 1 if unlike else 0)
            self.assertIs(alike(one, other), not unlike)
            told = parting(one, other)
            self.assertEqual(told and told[0], unlike[0] if unlike else None)
            found.add((bool(unlike), endless, same[-1]))
        self.assertTrue({(False, False, True), (True, True, False), (True, False, True)} <= found)

    def test_plain_and_far_ways_agree(self):
        for one, other in self.pairs():
            orbit = PairOrbit(one, other)
            for depth in (0, 1, 3, 70, 10 ** 9 + 7):
                self.assertEqual(orbit._far(depth), orbit.at(depth))
            goals = unlike_pairs(one, other)
            self.assertEqual(orbit._last_by_nodes(goals), orbit.last_with(goals))

    def test_pairs_that_go_round_late(self):
        # Shade 1 comes together at the depths that both 61 and 64 divide: all of 3904 pairs come.
        one, other = ring(2, [1] + [0] * 60), ring(2, [1] + [0] * 63)
        for depth in (0, 1, 60, 61, 64, 3903, 3904, 3904 * 10 ** 20, 3904 * 10 ** 20 + 64):
            self.assertIs(alike_at(one, other, depth), (depth % 61 == 0) == (depth % 64 == 0))
        self.assertIsNone(alike_from(one, other))
        self.assertEqual(parting(one, other), (61, 0, 0))
        self.assertEqual(alike_from(chain(2, 62, (0, 1)), (chain(2, 62, (0, 1))[0], 62)), 62)

    def test_first_cells(self):
        random = Random(7)
        found = set()
        for one, other in made_pairs(8, 20):
            barred = [[random.randrange(4) == 0 for _ in range(4)] for _ in range(4)]
            greatest = {2: 4, 3: 2, 4: 2}[one[0][0]]
            told = first_barred(one, other, barred)
            wanted = first_cell_where(one, other, range(greatest + 1), lambda s, t: barred[s][t])
            if told is None or told[0] <= greatest:
                self.assertEqual(told, wanted)
            else:
                self.assertIsNone(wanted)
            self.assertEqual(first_barred(one, other, UNLIKE), parting(one, other))
            found.add(told and told[0])
        self.assertTrue({None, 0, 1, 2, 3} <= found)

    def test_alike_is_the_least_picture(self):
        found = set()
        pictures = eight_letters(9, 40)
        wide = [put(one, other, PARITY) for one, other in zip(pictures[::6], pictures[6::6])]
        for one in pictures + wide:
            others = [picture for picture in pictures + wide if picture[0][0] == one[0][0]][:6]
            others += [renamed(one), least(one)] + [(one[0], letter) for letter in range(len(one[0][1]))][:8]
            for other in others:
                if len(other[0][1]) <= 64:
                    self.assertIs(alike(one, other), least(one) == least(other))
                    found.add(alike(one, other))
        self.assertEqual(found, {True, False})


class KindsTest(unittest.TestCase):
    def plain_rounds(self, steps, marks):
        """The partitions round by round, up to the one that stays."""
        rounds = [numbered(marks)]
        while len(rounds) < 2 or max(rounds[-1]) > max(rounds[-2]):
            kinds = rounds[-1]
            rounds.append(numbered([(kind, *[kinds[node] for node in row]) for kind, row in zip(kinds, steps)]))
        return rounds

    def test_rounds_and_halves(self):
        random = Random(10)
        some = [(picture[0], random.randrange(3)) for picture in eight_letters(10, 60) + made_pictures(10, 10)]
        some += [(chain(2, length, (1, 0))[0], 1) for length in (5, 9, 12, 40, 63)] + [(ring(3, [0] * 63 + [1])[0], 1)]
        for book, _ in some:
            steps = [[letter for row in block for letter in row] for block in book[2]]
            rounds = self.plain_rounds(steps, list(book[1]))
            for told in (merged(steps, list(book[1])), split_by_halves(steps, list(book[1]))):
                pairs = set(zip(told, rounds[-1]))
                self.assertEqual(len(pairs), len(set(told)))
                self.assertEqual(len(pairs), len(set(rounds[-1])))
                self.assertEqual(sorted(set(told)), list(range(len(set(told)))))
            self.assertEqual(telling_depth(book), len(rounds) - 2)
            self.assertEqual(len(classes(book)), max(rounds[-1]) + 1)

    def test_wide_chains_take_no_long_rounds(self):
        # Each round tells one letter more: what is left behind some of them is told by halves.
        picture = put(chain(2, 8, (0, 0)), ring(2, [0, 1, 2, 3, 0, 1, 2]), PARITY)
        self.assertEqual(least((picture[0], picture[1])), picture)
        self.assertEqual(solved(ring(2, [0]), picture, PARITY), picture)
        self.assertIs(within(picture, picture, 1), True)


class TurnsTest(unittest.TestCase):
    def test_turned_blocks(self):
        for picture in eight_letters(11, 12):
            for turn in range(8):
                made = turned(picture, turn)
                self.assertIs(is_picture(made), True)
                for block, other in zip(picture[0][2], made[0][2]):
                    wanted = turned_sheet([list(row) for row in block], turn)
                    self.assertEqual([list(row) for row in other], wanted)

    def test_onto_each_turn(self):
        random = Random(12)
        pictures = eight_letters(12, 30)
        wide = [put(one, other, PARITY) for one, other in zip(pictures[::9], pictures[3::9])]
        found = set()
        for one in pictures + wide + [ring(3, [0, 1, 2]), STAIRS]:
            for other in [random.choice(pictures), turned(renamed(one), random.randrange(8)), one]:
                if other[0][0] == one[0][0] and len(other[0][1]) <= 64:
                    wanted = [turn for turn in range(8) if least(turned(one, turn)) == least(other)]
                    self.assertEqual(onto(one, other), wanted)
                    found.add(len(wanted))
            self.assertEqual(symmetries(one), onto(one, one))
        self.assertTrue({0, 1, 8} <= found)


class RefusedTest(unittest.TestCase):
    def test_anew_shares_nothing_but_what_is_no_list_or_tuple(self):
        kept = object()
        for value in NO_PICTURES + [STAIRS, [], (), [()], ([],), (1, (2, [3, (4, kept)])), [True, (False, "a")], kept]:
            built = anew(value)
            self.assertEqual(built, value)
            self.assertIs(built.__class__, value.__class__)
            self.assertFalse(shared(built, value))

    def test_each_entry_of_a_book_is_asked(self):
        for picture in [STAIRS, ring(3, [0, 1, 2, 3, 0]), ring(4, [1] * 64)]:
            base, shades, blocks = picture[0]
            for letter in {0, len(blocks) // 2, len(blocks) - 1}:
                for i in range(base):
                    for j in range(base):
                        for wrong in [True, False, -1, len(blocks), "0", None, [0], (0,)]:
                            rows = [list(row) for row in blocks[letter]]
                            rows[i][j] = wrong
                            block = tuple(tuple(row) for row in rows)
                            book = (base, shades, blocks[:letter] + (block,) + blocks[letter + 1:])
                            self.assertIs(is_picture((book, 0)), False)
                for wrong in [True, False, -1, 4, "0", None, [0]]:
                    book = (base, shades[:letter] + (wrong,) + shades[letter + 1:], blocks)
                    self.assertIs(is_picture((book, 0)), False)


def shared(one, other):
    """Whether a list or a tuple with entries stands in both."""
    if isinstance(one, (list, tuple)) and len(one) > 0:
        return one is other or any(shared(a, b) for a, b in zip(one, other))
    return isinstance(one, list) and one is other


if __name__ == "__main__":
    unittest.main()
