import unittest
from itertools import product
from random import Random

from everydepth.alike import alike, alike_at, alike_from, closed_pairs, pairs_hold, parting
from everydepth.errors import InvalidDepth
from everydepth.pictures import coming
from tests.helper import PromiseCase
from tests.model import (
    LATE, OTHER, STAIRS, chain, first_cell_where, made_pairs, pairs_by_depth, renamed, ring, shade_sheet,
)

# Two pictures of six and seven letters part, if ever, ahead of depth 13; their sheets go round far ahead of 100.
MANY_DEPTHS = 100


def unlike_depths(one, other, depths):
    shades, others = one[0][1], other[0][1]
    sets = pairs_by_depth(one, other, depths)
    return [depth for depth, pairs in enumerate(sets) if any(shades[a] != others[b] for a, b in pairs)]


class AlikeTest(PromiseCase):
    def test_examples(self):
        self.assertEqual(
            [parting(STAIRS, OTHER), alike_at(STAIRS, OTHER, 10 ** 30), closed_pairs(STAIRS, OTHER),
             alike_from(STAIRS, LATE), parting(STAIRS, LATE)],
            [(1, 0, 1), False, [(0, 0), (0, 1), (1, 0), (1, 1)], 1, (0, 0, 0)])

    def test_all_depths(self):
        found = set()
        for one, other in made_pairs(21, 25):
            depths = unlike_depths(one, other, MANY_DEPTHS)
            self.assertIs(alike(one, other), not depths)
            told = parting(one, other)
            self.assertEqual(told and told[0], depths[0] if depths else None)
            endless = bool(depths) and depths[-1] > MANY_DEPTHS // 2
            self.assertEqual(alike_from(one, other), None if endless else depths[-1] + 1 if depths else 0)
            for depth in (0, 1, 2, 3, 5, 40, 99):
                self.assertIs(alike_at(one, other, depth), depth not in depths)
            found.add((bool(depths), endless))
        self.assertEqual(found, {(False, False), (True, False), (True, True)})

    def test_first_unlike_cells(self):
        found = set()
        for one, other in made_pairs(22, 25):
            told = parting(one, other)
            greatest = {2: 4, 3: 2, 4: 2}[one[0][0]]
            if told is None or told[0] <= greatest:
                wanted = first_cell_where(one, other, range(greatest + 1), lambda s, t: s != t)
                self.assertEqual(told, wanted)
                found.add(told and told[0])
        self.assertTrue({None, 0, 1, 2, 3} <= found)

    def test_reading_order_is_by_whole_rows(self):
        # At (0, 0) then (1, 0), cell (1, 0), and at (0, 1) then (0, 0), cell (0, 2): the row tells first.
        def picture(shade):
            blocks = (((1, 2), (4, 4)), ((4, 4), (3, 4)), ((3, 4), (4, 4)), ((3, 3), (3, 3)), ((4, 4), (4, 4)))
            return ((2, (0, 0, 0, shade, 0), blocks), 0)
        self.assertEqual(parting(picture(0), picture(1)), (2, 0, 2))

    def test_pictures_that_part_late(self):
        for base, place in [(2, (1, 0)), (3, (2, 1)), (4, (3, 2))]:
            for length in (2, 9, 40, 63):
                one = chain(base, length, place)
                blank = (one[0], length)
                depth = length - 1
                row, column = [int(str(figure) * depth, base) for figure in place]
                self.assertEqual(parting(one, blank), (depth, row, column))
                self.assertEqual(parting(blank, one), (depth, row, column))
                self.assertEqual(alike_from(one, blank), length)
                for at in (0, depth - 1, depth, depth + 1, 10 ** 30):
                    self.assertIs(alike_at(one, blank, at), at != depth)

    def test_rings_of_unlike_lengths(self):
        one, other = ring(2, [0] * 7 + [1], 3), ring(2, [0] * 6 + [1, 0], 2)
        # The one shows shade 1 at the depths 4, 12, 20 .., and so does the other.
        self.assertTrue(alike(one, other))
        other = ring(2, [0] * 6 + [1])
        self.assertEqual(parting(one, other), (4, 0, 0))
        self.assertIsNone(alike_from(one, other))
        for depth in list(range(120)) + [10 ** 30 + k for k in range(60)]:
            self.assertIs(alike_at(one, other, depth), (depth % 8 == 4) == (depth % 7 == 6))

    def test_alike_under_other_names(self):
        for one, _ in made_pairs(23, 10):
            self.assertIs(alike(one, renamed(one)), True)
            self.assertIsNone(parting(one, renamed(one)))
            self.assertIs(alike_at(one, renamed(one), 10 ** 30), True)
            self.assertEqual(alike_from(one, renamed(one)), 0)

    def test_wide_pictures(self):
        # Both have 64 letters and 61 times 64 pairs of them come.
        one, other = ring(4, [0] * 60 + [1]), ring(4, [0] * 63 + [1])
        self.assertEqual(parting(one, other), (60, 0, 0))
        self.assertIsNone(alike_from(one, other))
        self.assertEqual(len(closed_pairs(one, other)), 61 * 64)
        one, other = ring(4, [2] * 61), ring(4, [2] * 64)
        self.assertIs(alike(one, other), True)
        self.assertIs(pairs_hold(one, other, closed_pairs(one, other)), True)
        wide = (wide_book(), 0)
        self.assertIs(alike(wide, (wide[0], 1)), False)
        self.assertEqual(len(closed_pairs(wide, (wide[0], 1))), 64 * 64)

    def test_equal_shades_at_depth_0_only_tell_nothing(self):
        self.assertIs(alike_at(STAIRS, OTHER, 0), True)
        self.assertIs(alike_at(STAIRS, LATE, 0), False)
        self.assertIs(alike_at(STAIRS, LATE, 10 ** 30), True)

    def test_wrong_arguments(self):
        for function in (alike, parting, alike_from, closed_pairs):
            self.pairs_refused(function)
        self.pairs_refused(alike_at, -1)
        self.pairs_refused(pairs_hold, None)
        self.refused(InvalidDepth, -1, alike_at, STAIRS, OTHER, -1)


def wide_book():
    random = Random(5)
    shades = tuple(random.randrange(4) for _ in range(64))

    def row():
        return tuple(random.randrange(64) for _ in range(4))
    return (4, shades, tuple(tuple(row() for _ in range(4)) for _ in range(64)))


class PairsTest(PromiseCase):
    def test_closed_pairs(self):
        for one, other in made_pairs(24, 15):
            wanted = set().union(*pairs_by_depth(one, other, 50))
            self.assertEqual(closed_pairs(one, other), sorted(wanted))
            self.assertIs(pairs_hold(one, other, closed_pairs(one, other)), alike(one, other))
        self.all_new(closed_pairs, STAIRS, OTHER)

    def test_pictures_are_alike_if_there_is_such_a_list(self):
        for one, other in made_pairs(25, 6):
            if len(coming(one)) * len(coming(other)) > 6:
                continue
            pairs = list(product(coming(one), coming(other)))
            lists = [[pair for pair, kept in zip(pairs, bits) if kept] for bits in product([0, 1], repeat=len(pairs))]
            self.assertIs(any(pairs_hold(one, other, value) for value in lists), alike(one, other))

    def test_sequence_and_repetitions_play_no_part(self):
        held = closed_pairs(STAIRS, renamed(STAIRS))
        self.assertEqual(held, [(0, 1), (1, 0)])
        for value in [held, held[::-1], held * 3, held + held[:1]]:
            self.assertIs(pairs_hold(STAIRS, renamed(STAIRS), value), True)

    def test_more_pairs_than_come(self):
        # (1, 0) is closed for itself, though the pictures alone need (0, 0) of one letter.
        picture = ((2, (1, 1), (((0, 0), (0, 0)), ((1, 1), (1, 1)))), 0)
        self.assertIs(pairs_hold(picture, picture, [(0, 0)]), True)
        self.assertIs(pairs_hold(picture, picture, [(0, 0), (1, 0)]), True)
        self.assertIs(pairs_hold(picture, picture, [(1, 0)]), False)

    def test_lists_that_do_not_hold(self):
        other = ((2, (1, 0, 0), STAIRS[0][2] + (((0, 0), (0, 0)),)), 0)
        for value in [[], [(0, 0)], [(1, 1)], [(0, 0), (1, 1), (1, 0)], [(0, 0), (1, 1), (1, 2)]]:
            self.assertIs(pairs_hold(STAIRS, other, value), False, value)
        self.assertIs(pairs_hold(STAIRS, other, [(0, 0), (1, 1)]), True)

    def test_any_object(self):
        held = [(0, 0), (1, 1)]
        self.assertIs(pairs_hold(STAIRS, STAIRS, held), True)
        for value in [
            None, 0, True, "text", b"", (), {}, set(), object(), tuple(held), set(held), dict(held), [held],
            held + [None], held + [[0, 0]], held + [()], held + [(0,)], held + [(0, 0, 0)], held + [(2, 2)],
            held + [(2, 1)], held + [(1, 2)],
            held + [(-1, -1)], held + [(10 ** 100, 0)], held + [(0, "0")], held + [(True, 1)], held + [(1, True)],
            held + [(0, False)], [(False, 0), (1, 1)], held + [(0, [0])], held + [([], [])], held + [({}, 0)],
            held + [(None, None)], held + ["ab"],
        ]:
            self.assertIs(pairs_hold(STAIRS, STAIRS, value), False, value)

    def test_the_list_is_left_as_it_was(self):
        value = [(1, 1), (0, 0), (1, 1)]
        pairs_hold(STAIRS, STAIRS, value)
        self.assertEqual(value, [(1, 1), (0, 0), (1, 1)])


if __name__ == "__main__":
    unittest.main()
