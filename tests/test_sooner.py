"""The quicker ways for great depths and for small sheets against plain ones: cells counted one by one, sums that must fit."""

import unittest
from random import Random

from everydepth.adding import Flows, Sources, added
from everydepth.carries import Overlay, move_keys
from everydepth.cells import letter_at, shade_at
from everydepth.counts import counts, first_unlike_count, rest, rule
from everydepth.fulllines import is_within, lines_within, longest_within, nth_within, number_within
from everydepth.least import fewest, least
from everydepth.lines import line_counts
from everydepth.moves import agreement, pairs_at, round_pairs, unlike_at
from everydepth.patches import Patches, explored
from everydepth.patterns import (
    comes, first_depth, first_place, last_place, pattern_at, pattern_count, patterns, patterns_at,
)
from everydepth.rectangles import frame, in_rectangle, last_ahead, next_cell, nth_cell, number_of
from everydepth.remainders import power_of_x
from everydepth.strips import whole_blocks
from everydepth.sums import numbers_at
from everydepth.together import put
from tests.model import (
    CARPET, LEAST_OF, PARITY, STAIRS, chain, falling_picture, made_picture, renamed, ring, sparse_picture,
)
from tests.model_numbers import counts_by_letters, pattern_places, patterns_in, rest_by_squares
from tests.model_places import (
    first_longest_run, first_unlike_pair, full_lines, pair_table, pairs_over, shade_places, some_pictures, striped_picture,
)


def drawn(random, base, most=8):
    made = random.choice([made_picture, made_picture, sparse_picture, falling_picture, striped_picture])
    return made(random, base, random.randrange(1, most + 1))


def wide_pictures(seed, many):
    """What put returns of two pictures: up to 64 letters."""
    random = Random(seed)
    found = []
    for number in range(many):
        base = 2 + number % 3
        table = random.choice([PARITY, LEAST_OF])
        found.append(put(made_picture(random, base, 8), drawn(random, base), table))
    return found


class SumsTest(unittest.TestCase):
    def test_rows_of_all_lengths(self):
        random = Random(1)
        numbers = [random.randrange(-10 ** random.randrange(1, 40), 10 ** 40) for _ in range(30)]
        for length in range(20):
            rows = [tuple(random.randrange(30) for _ in range(length)) for _ in range(random.randrange(1, 9))]
            self.assertEqual(added(numbers, rows), [sum(numbers[place] for place in row) for row in rows])

    def test_sources_and_flows_of_any_lengths(self):
        random = Random(2)
        for _ in range(60):
            many = random.randrange(1, 40)
            numbers = [random.randrange(10 ** random.randrange(1, 40)) for _ in range(many)]
            places = [[random.randrange(many) for _ in range(random.randrange(40))] for _ in range(random.randrange(1, 20))]
            self.assertEqual(Sources(places).sums(numbers), [sum(numbers[place] for place in terms) for terms in places])
            flows = [[(place, random.randrange(1, 5)) for place in terms] for terms in places]
            wanted = [sum(numbers[place] * times for place, times in terms) for terms in flows]
            self.assertEqual(Flows(flows).sums(numbers), wanted)

    def test_numbers_of_few_and_of_many_nodes(self):
        random = Random(3)
        for nodes in [1, 2, 3, 5, 6, 12]:
            for depth in [0, 1, 2, 5, 6, 7, 20, 90]:
                flows = [[(node, random.randrange(1, 4)) for node in random.sample(range(nodes), random.randrange(nodes + 1))]
                         for _ in range(nodes)]
                weights = [random.randrange(-2, 3) for _ in range(nodes)]
                wanted = weights
                for _ in range(depth):
                    wanted = [sum(wanted[node] * times for node, times in flow) for flow in flows]
                self.assertEqual(numbers_at(flows, weights, depth), wanted)


class CellsTest(unittest.TestCase):
    def test_each_place_of_small_sheets(self):
        random = Random(4)
        pictures = some_pictures(301, 24) + wide_pictures(302, 3)
        for picture in pictures:
            depth = {2: 4, 3: 2, 4: 2}[picture[0][0]]
            for depth in range(depth + 1):
                side = picture[0][0] ** depth
                for shade in range(4):
                    places = shade_places(picture, depth, shade)
                    wanted = None
                    if places:
                        rows, columns = zip(*places)
                        wanted = (min(rows), min(columns), max(rows) + 1, max(columns) + 1)
                    self.assertEqual(frame(picture, depth, shade), wanted)
                    number = 0
                    for row, column in [(row, column) for row in range(side) for column in range(side)]:
                        here = number < len(places) and places[number] == (row, column)
                        self.assertEqual(last_ahead(picture, depth, shade, row, column), places[number - 1] if number else None)
                        told = next_cell(picture, depth, shade, row, column)
                        self.assertEqual(told, places[number] if number < len(places) else None)
                        if random.randrange(8) == 0 or here:
                            self.assertEqual(number_of(picture, depth, shade, row, column), number)
                        if here:
                            self.assertEqual(nth_cell(picture, depth, shade, number), (row, column))
                            number += 1
                    self.assertIsNone(nth_cell(picture, depth, shade, number))

    def test_numbers_and_places_of_great_depths(self):
        random = Random(5)
        for picture in some_pictures(303, 20) + wide_pictures(304, 4):
            depth = random.choice([89, 90, random.randrange(5, 90)])
            side = picture[0][0] ** depth
            totals = counts(picture, depth)
            self.assertEqual(totals, counts_by_letters(picture, depth + 1)[depth])
            for _ in range(3):
                row, column = random.randrange(side), random.randrange(side)
                # The cells ahead of a place are those of whole rows and those of its own row.
                told = [number_of(picture, depth, shade, row, column) for shade in range(4)]
                rows = in_rectangle(picture, depth, (0, 0, row, side))
                ahead = in_rectangle(picture, depth, (row, 0, row + 1, column))
                self.assertEqual(told, [x + y for x, y in zip(rows, ahead)])
                self.assertEqual(sum(told), row * side + column)
                for shade in range(4):
                    self.nearest_told(picture, depth, shade, (row, column), told[shade], totals[shade])

    def nearest_told(self, picture, depth, shade, place, number, total):
        """The nearest cells have the numbers next to that of the place."""
        behind, ahead = next_cell(picture, depth, shade, *place), last_ahead(picture, depth, shade, *place)
        self.assertEqual(behind is None, number == total)
        self.assertEqual(ahead is None, number == 0)
        if behind is not None:
            self.assertTrue(behind >= place)
            self.assertEqual(shade_at(picture, depth, *behind), shade)
            self.assertEqual(number_of(picture, depth, shade, *behind), number)
            self.assertEqual(nth_cell(picture, depth, shade, number), behind)
        if ahead is not None:
            self.assertTrue(ahead < place)
            self.assertEqual(shade_at(picture, depth, *ahead), shade)
            self.assertEqual(number_of(picture, depth, shade, *ahead), number - 1)
            self.assertEqual(nth_cell(picture, depth, shade, number - 1), ahead)

    def test_cells_in_far_rows(self):
        # The nearest cell stands in another row, far away, and in the next block of each size.
        for place in [(0, 0), (0, 1), (1, 0), (1, 1)]:
            late = chain(2, 63, place)
            row, column = [2 ** 62 - 1 if figure else 0 for figure in place]
            for other in [(0, 0), (row, column), (2 ** 62 - 1, 2 ** 62 - 1), (2 ** 61, 2 ** 61), (2 ** 61 - 1, 5)]:
                self.assertEqual(next_cell(late, 62, 1, *other), (row, column) if other <= (row, column) else None)
                self.assertEqual(last_ahead(late, 62, 1, *other), (row, column) if other > (row, column) else None)
        stairs_rows = [next_cell(STAIRS, 90, 1, row, 2 ** 90 - 1) for row in (0, 5, 2 ** 89)]
        self.assertEqual(stairs_rows, [(1, 0), (6, 0), (2 ** 89 + 1, 0)])

    def test_blocks_that_lie_whole_in_a_rectangle(self):
        random = Random(6)
        for picture in some_pictures(305, 12):
            base, depth = picture[0][0], 3
            side = base ** depth
            top, below = sorted(random.randrange(side + 1) for _ in range(2))
            left, right = sorted(random.randrange(side + 1) for _ in range(2))
            cells = [letter_at(picture, depth, r, c) for r in range(top, below) for c in range(left, right)]
            found = [0] * len(picture[0][1])
            for at, layer in enumerate(whole_blocks(picture[0][2], picture[1], base, depth, (top, left, below, right))):
                deeper = [0] * len(found)
                for letter, times in enumerate(found):
                    for row in picture[0][2][letter] if at else ():
                        for inner in row:
                            deeper[inner] += times
                found = deeper
                for letter, times in layer.items():
                    found[letter] += times
            self.assertEqual(found, [cells.count(letter) for letter in range(len(found))])


class MovesTest(unittest.TestCase):
    def test_both_ways_of_an_overlay(self):
        # Where few nodes come they are followed, else sums are put together; with a picture over itself some never come.
        random = Random(7)
        for number in range(40):
            base = 2 + number % 3
            one = drawn(random, base)
            other = random.choice([one, renamed(one), drawn(random, base)])
            other = other if len(other[0][1]) <= 8 else one
            depth = random.choice([7, 8, 20, 40])
            side = base ** depth
            for move in [(0, 0), (1, 0), (5, -3), (-1, -1), (random.randrange(side), -random.randrange(side)), (side // base, 7)]:
                keys = move_keys(base, depth, move)
                overlay = Overlay(one, other)
                carry = 2 * int(move[0] < 0) + int(move[1] < 0)
                for carries in [[carry], [0, 1, 2, 3]]:
                    told = overlay.numbers(keys, carries)
                    wanted = [0] * overlay.size
                    pairs = overlay.size // 4
                    for start in carries:
                        wanted[start * pairs + overlay.start(0) // 4] = 1
                    for key in keys:
                        wanted = overlay._pushed(key, wanted)
                    self.assertEqual(told, wanted[:pairs])

    def test_small_depths_pair_by_pair(self):
        random = Random(8)
        for number in range(30):
            base = 2 + number % 3
            one, other = drawn(random, base), drawn(random, base)
            depth = {2: 5, 3: 3, 4: 3}[base]
            side = base ** depth
            for move in [(0, 0), (0, 1), (-1, 2), (random.randrange(-side, side + 1), random.randrange(-side, side + 1))]:
                pairs = pairs_over(one, other, depth, move, False)
                self.assertEqual(pairs_at(one, other, depth, move), pair_table(pairs))
                self.assertEqual(agreement(one, other, depth, move), sum(s == t for _, _, s, t in pairs))
                self.assertEqual(unlike_at(one, other, depth, move), first_unlike_pair(pairs))
                self.assertEqual(round_pairs(one, other, depth, move), pair_table(pairs_over(one, other, depth, move, True)))

    def test_sums_at_depths_to_90(self):
        random = Random(9)
        for number in range(24):
            base = 2 + number % 3
            one = drawn(random, base)
            other = random.choice([one, (one[0], random.randrange(len(one[0][1]))), drawn(random, base)])
            depth = random.choice([90, random.randrange(7, 90)])
            side = base ** depth
            for move in [(random.randrange(-side, side), random.randrange(-side, side)), (3, -2), (0, side - 1)]:
                table = pairs_at(one, other, depth, move)
                # The rows have the cells of the one that lie over some cell, the columns those over which some lie.
                down, right = move
                part = (max(0, -down), max(0, -right), side - max(0, down), side - max(0, right))
                moved = (max(0, down), max(0, right), side + min(0, down), side + min(0, right))
                self.assertEqual(tuple(map(sum, table)), in_rectangle(one, depth, part))
                self.assertEqual(tuple(map(sum, zip(*table))), in_rectangle(other, depth, moved))
                self.assertEqual(pairs_at(other, one, depth, (-down, -right)), tuple(zip(*table)))
                self.assertEqual(agreement(one, other, depth, move), sum(table[shade][shade] for shade in range(4)))
                around = round_pairs(one, other, depth, move)
                self.assertEqual(tuple(map(sum, around)), counts(one, depth))
                self.assertEqual(tuple(map(sum, zip(*around))), counts(other, depth))
                self.assertEqual(round_pairs(other, one, depth, (-down, -right)), tuple(zip(*around)))
                # Round, what goes over the rim lies over the other end.
                four = [pairs_at(one, other, depth, (down - i * side, right - j * side))
                        for i in (-1, 0, 1) for j in (-1, 0, 1)]
                self.assertEqual(around, tuple(tuple(sum(t[a][b] for t in four) for b in range(4)) for a in range(4)))

    def test_fewest_letters(self):
        random = Random(10)
        for number in range(60):
            picture = drawn(random, 2 + number % 3)
            told = fewest(picture, None)
            self.assertEqual(least(told), least(picture))
            self.assertEqual(len(told[0][1]), len(least(picture)[0][1]))
            self.assertEqual(fewest(picture, 0), picture)


class PatternsTest(unittest.TestCase):
    def few_letters(self, seed, many):
        random = Random(seed)
        found = [STAIRS, CARPET, ring(2, [0, 1]), ring(4, [3])]
        while len(found) < many:
            base = 2 + len(found) % 3
            found.append(random.choice([made_picture, sparse_picture, falling_picture])(random, base, random.randrange(1, 5)))
        return random, found

    def test_all_patterns_of_small_sheets(self):
        random, pictures = self.few_letters(11, 30)
        for picture in pictures:
            base = picture[0][0]
            deepest = {2: 5, 3: 3, 4: 3}[base]
            rows, columns = random.randrange(1, base + 2), random.randrange(1, base + 2)
            by_depth = [patterns_in(picture, depth, rows, columns) for depth in range(deepest + 1)]
            for depth, wanted in enumerate(by_depth):
                self.assertEqual(patterns_at(picture, depth, rows, columns), wanted)
            told = patterns(picture, rows, columns)
            self.assertEqual(told, sorted(set(told)))
            for depth, some in enumerate(by_depth):
                self.assertTrue(set(some) <= set(told))
                for pattern in random.sample(some, min(2, len(some))):
                    first = next(at for at, others in enumerate(by_depth) if pattern in others)
                    self.assertEqual(first_depth(picture, pattern), first)
                    self.pattern_told(picture, depth, pattern)
            for pattern in set(told) - {pattern for some in by_depth for pattern in some}:
                self.assertGreater(first_depth(picture, pattern), deepest)

    def pattern_told(self, picture, depth, pattern):
        places = pattern_places(picture, depth, pattern)
        self.assertIs(comes(picture, pattern), True)
        self.assertIs(pattern_at(picture, depth, pattern), True)
        self.assertEqual(pattern_count(picture, depth, pattern), len(places))
        self.assertEqual(first_place(picture, depth, pattern), places[0])
        self.assertEqual(last_place(picture, depth, pattern), places[-1])

    def test_great_depths(self):
        random, pictures = self.few_letters(12, 30)
        for picture in pictures:
            base = picture[0][0]
            depth = random.choice([90, random.randrange(6, 90)])
            side = base ** depth
            # What patterns of one size there are covers each place at which one may begin.
            rows, columns = random.randrange(1, 3), random.randrange(1, 3)
            some = patterns_at(picture, depth, rows, columns)
            numbers = [pattern_count(picture, depth, pattern) for pattern in some]
            self.assertTrue(min(numbers) > 0)
            self.assertEqual(sum(numbers), (side - rows + 1) * (side - columns + 1))
            for pattern in some[:3] + some[-3:]:
                for place in (first_place(picture, depth, pattern), last_place(picture, depth, pattern)):
                    own = tuple(tuple(shade_at(picture, depth, place[0] + i, place[1] + j) for j in range(columns))
                                for i in range(rows))
                    self.assertEqual(own, pattern)
            self.assertEqual(min(first_place(picture, depth, pattern) for pattern in some), (0, 0))
            self.assertEqual(max(last_place(picture, depth, pattern) for pattern in some), (side - rows, side - columns))
            for shade in range(4):
                cells = counts(picture, depth)[shade]
                self.assertEqual(pattern_count(picture, depth, ((shade,),)), cells)
                first = next_cell(picture, depth, shade, 0, 0)
                self.assertEqual(first_place(picture, depth, ((shade,),)), first)
                self.assertEqual(last_place(picture, depth, ((shade,),)), nth_cell(picture, depth, shade, max(0, cells - 1)))

    def test_patches_told_at_once_and_one_by_one(self):
        random, pictures = self.few_letters(13, 24)
        for picture in pictures:
            for rows, columns in [(1, 1), (1, 2), (2, 1), (2, 2)]:
                patches = explored(picture, rows, columns, False, None)
                again = Patches(fewest(picture, None), rows, columns, False)
                self.assertEqual(sorted(again.all_patches()), sorted(patches.nodes))
                while len(again.children) < len(again.nodes):
                    again.unfold()
                self.assertEqual([again.nodes, again.children, again.spots, again.depths],
                                 [patches.nodes, patches.children, patches.spots, patches.depths])


class LinesTest(unittest.TestCase):
    def test_small_sheets(self):
        random = Random(14)
        for picture in some_pictures(306, 30) + wide_pictures(307, 2):
            for depth in range({2: 7, 3: 4, 4: 4}[picture[0][0]]):
                side = picture[0][0] ** depth
                for along in ("row", "column"):
                    shades = random.choice([(0,), (1,), (0, 1), (1, 2, 3), (0, 2)])
                    lines = full_lines(picture, depth, along, shades)
                    self.assertEqual(lines_within(picture, depth, along, shades), len(lines))
                    self.assertEqual(longest_within(picture, depth, along, shades), first_longest_run(lines))
                    for number in {0, len(lines) // 2, max(0, len(lines) - 1), len(lines)}:
                        wanted = lines[number] if number < len(lines) else None
                        self.assertEqual(nth_within(picture, depth, along, shades, number), wanted)
                    for line in {0, side - 1, random.randrange(side)}:
                        self.assertIs(is_within(picture, depth, along, line, shades), line in lines)
                        wanted = len([own for own in lines if own < line])
                        self.assertEqual(number_within(picture, depth, along, shades, line), wanted)

    def test_great_depths(self):
        random = Random(15)
        for picture in some_pictures(308, 16):
            side = picture[0][0] ** 90
            for shades in [(0,), (0, 1), (1, 2, 3)]:
                line = random.randrange(side)
                inside = sum(line_counts(picture, 90, "column", line)[shade] for shade in shades)
                self.assertIs(is_within(picture, 90, "column", line, shades), inside == side)
                many = lines_within(picture, 90, "column", shades)
                if many:
                    told = nth_within(picture, 90, "column", shades, many // 2)
                    self.assertIs(is_within(picture, 90, "column", told, shades), True)
                    self.assertEqual(number_within(picture, 90, "column", shades, told), many // 2)


class RemaindersTest(unittest.TestCase):
    def test_powers_step_by_step(self):
        random = Random(16)
        for length in [0, 1, 2, 3, 4, 7, 16]:
            for modulus in [1, 2, 7, 10 ** 9, random.randrange(1, 10 ** 30)]:
                told = [random.randrange(-10 ** random.randrange(1, 8), 10 ** 8) for _ in range(length)]
                power = [1 % modulus] + [0] * (length - 1) if length else []
                for exponent in range(40):
                    self.assertEqual([x % modulus for x in pad(power_of_x(told, exponent, modulus), length)], power)
                    if length:
                        top = power[-1]
                        power = [0] + power[:-1]
                        power = [(x + top * y) % modulus for x, y in zip(power, told[::-1])]

    def test_rests_near_great_depths(self):
        random = Random(17)
        for number in range(24):
            picture = drawn(random, 2 + number % 3)
            for depth in [10 ** 30, 10 ** 30 - 1, random.randrange(10 ** 30), 91]:
                modulus = random.choice([1, 2, 10 ** 18 + 9, random.randrange(1, 10 ** 30)])
                for shade in range(4):
                    self.assertEqual(rest(picture, depth, shade, modulus), rest_by_squares(picture, depth, shade, modulus))

    def test_rules_hold_far_behind(self):
        random = Random(18)
        for number in range(24):
            picture, other = drawn(random, 2 + number % 3), drawn(random, 2 + (number + 1) % 3)
            numbers = counts_by_letters(picture, 60)
            others = counts_by_letters(other, 60)
            for shade in range(4):
                told = rule(picture, shade)
                for at in range(len(told), 60):
                    wanted = sum(above * numbers[at - 1 - back][shade] for back, (above, _) in enumerate(told))
                    self.assertEqual(numbers[at][shade], wanted)
                unlike = [at for at in range(60) if numbers[at][shade] != others[at][shade]]
                self.assertEqual(first_unlike_count(picture, other, shade), unlike[0] if unlike else None)


def pad(numbers, many):
    return list(numbers) + [0] * (many - len(numbers))


if __name__ == "__main__":
    unittest.main()
