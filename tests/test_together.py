import unittest
from itertools import product
from random import Random

from everydepth.alike import alike
from everydepth.errors import InvalidShade, InvalidTable, TooMany
from everydepth.least import is_least, least
from everydepth.pictures import is_picture
from everydepth.together import first_without, mapped, put, solved, unsolved, within
from tests.helper import PromiseCase
from tests.model import (
    BOTH, LEAST_OF, OTHER, PARITY, STAIRS, chain, first_cell_where, made_pairs, made_pictures, ring, shade_sheet,
)
from tests.test_alike import wide_book

FIRST = tuple((s,) * 4 for s in range(4))
DEPTHS = {2: 4, 3: 2, 4: 2}

NO_MAPS = [
    None, 0, True, "0123", [], (), (0, 1, 2), (0, 1, 2, 3, 0), [0, 1, 2, 3], (0, 1, 2, 4), (0, -1, 2, 3),
    (True, 1, 2, 3), (0, 1, 2, False), (0, 1, "2", 3), ([0], 1, 2, 3), (0, 1, 2, None), {0: 0, 1: 1, 2: 2, 3: 3},
]
NO_TABLES = [None, (0, 1, 2, 3), PARITY[:3], PARITY + PARITY[:1], list(PARITY), [list(row) for row in PARITY]] + [
    PARITY[:2] + (row,) + PARITY[3:] for row in NO_MAPS]
NO_SHADES = [None, True, False, -1, 4, 10 ** 100, "1", (1,), [1], [[1], ([],)], {}]


def made_tables(seed, many):
    random = Random(seed)
    tables = [PARITY, LEAST_OF, BOTH, FIRST]
    for number in range(many):
        tables.append(tuple(tuple(random.randrange(1 + number % 4) for _ in range(4)) for _ in range(4)))
    return tables


def paired_sheets(one, other, depth):
    """The list of the rows of the tuples of both shades."""
    return [list(zip(row, line)) for row, line in zip(shade_sheet(one, depth), shade_sheet(other, depth))]


class PutTest(PromiseCase):
    def test_examples(self):
        self.assertEqual(
            [put(STAIRS, STAIRS, PARITY), within(put(STAIRS, OTHER, LEAST_OF), STAIRS, 1),
             unsolved(STAIRS, OTHER, LEAST_OF), mapped(STAIRS, (2, 2, 2, 2))],
            [((2, (0,), (((0, 0), (0, 0)),)), 0), True, (1, 0, 1), ((2, (2,), (((0, 0), (0, 0)),)), 0)])

    def test_each_cell(self):
        tables = made_tables(41, 8)
        for number, (one, other) in enumerate(made_pairs(41, 12)):
            table = tables[number % len(tables)]
            made = put(one, other, table)
            self.assertIs(is_least(made), True)
            for depth in range(DEPTHS[one[0][0]]):
                wanted = [[table[s][t] for s, t in row] for row in paired_sheets(one, other, depth)]
                self.assertEqual(shade_sheet(made, depth), wanted)

    def test_put_with_the_one_alone(self):
        for one, other in made_pairs(42, 10):
            self.assertEqual(put(one, other, FIRST), least(one))

    def test_mapped(self):
        maps = [(0, 1, 2, 3), (3, 3, 3, 3), (1, 0, 0, 2), (0, 0, 1, 1)]
        for number, picture in enumerate(made_pictures(43, 20)):
            shades = maps[number % 4]
            made = mapped(picture, shades)
            self.assertIs(is_least(made), True)
            for depth in range(DEPTHS[picture[0][0]]):
                wanted = [[shades[s] for s in row] for row in shade_sheet(picture, depth)]
                self.assertEqual(shade_sheet(made, depth), wanted)
        self.assertEqual(mapped(STAIRS, (0, 1, 2, 3)), STAIRS)
        wide = ring(4, [0] * 63 + [1])
        self.assertEqual(mapped(wide, (2, 3, 0, 0)), ring(4, [2] * 63 + [3]))

    def test_sixty_four_letters_and_more(self):
        # Rings of 8 letters and of 8, 9 letters: the shades go round after 8, after 72 depths.
        made = put(ring(2, [0] * 7 + [1]), ring(2, [0, 1, 1, 1, 1, 1, 1, 1]), PARITY)
        self.assertEqual(made, ring(2, [0, 1, 1, 1, 1, 1, 1, 0]))
        self.refused(TooMany, 72, put, ring(2, [0] * 7 + [1]), ring(2, [0] * 8 + [1]), BOTH)
        wide = put(ring(4, [0] * 8 + [1], 8), ring(4, [0] * 6 + [1], 6), BOTH)
        self.assertEqual(wide, ring(4, [1] + [0] * 62))
        exact = ring(4, [1] + [0] * 63)
        self.assertEqual(put(exact, ring(4, [2]), PARITY), ring(4, [3] + [2] * 63))

    def test_results_are_passed_back(self):
        wide = put(ring(4, [0] * 8 + [1], 8), ring(4, [0] * 6 + [1], 6), BOTH)
        again = (wide[0], 1)
        self.assertIs(is_picture(again), True)
        self.assertEqual(put(again, wide, PARITY), ring(4, [1] + [0] * 61 + [1]))
        self.assertEqual(put(wide, wide, PARITY), ring(4, [0]))
        self.assertEqual(first_without(again, wide, 1), (62, 0, 0))

    def test_many_pairs_play_no_part(self):
        one, other = ring(4, [0] * 60 + [1]), ring(4, [0] * 63 + [1])
        self.refused(TooMany, 61 * 64, put, one, other, BOTH)
        self.assertEqual(put(one, other, FIRST), one)
        self.assertEqual(put(one, other, ((2,) * 4,) * 4), ring(4, [2]))

    def test_wide_pictures(self):
        wide = (wide_book(), 0)
        other = (wide[0], 1)
        self.assertEqual(put(wide, other, FIRST), least(wide))
        # All pairs come; of two pairs turned round one is enough, and one of all pairs of a letter with itself.
        self.refused(TooMany, 1 + 64 * 63 // 2, put, wide, other, PARITY)
        cyclic = tuple(tuple((t + s) % 4 for t in range(4)) for s in range(4))
        self.refused(TooMany, 1 + 64 * 63, solved, wide, other, cyclic)

    def test_wrong_arguments(self):
        self.pairs_refused(put, None)
        self.pictures_refused(mapped, None)
        for table in NO_TABLES:
            self.refused(InvalidTable, table, put, STAIRS, OTHER, table)
            self.refused(InvalidTable, table, solved, STAIRS, OTHER, table)
            self.refused(InvalidTable, table, unsolved, STAIRS, OTHER, table)
        for shades in NO_MAPS + [PARITY]:
            self.refused(InvalidTable, shades, mapped, STAIRS, shades)
        # TooMany comes last.
        self.refused(InvalidTable, None, put, ring(2, [0] * 7 + [1]), ring(2, [0] * 8 + [1]), None)


class WithinTest(PromiseCase):
    def test_first_cells(self):
        found = set()
        for one, other in made_pairs(44, 25):
            greatest = DEPTHS[one[0][0]]
            for shade in range(4):
                told = first_without(one, other, shade)
                self.assertIs(within(one, other, shade), told is None)
                if told is None or told[0] <= greatest:
                    wanted = first_cell_where(
                        one, other, range(greatest + 1), lambda s, t: s == shade and t != shade)
                    self.assertEqual(told, wanted)
                    found.add(told and told[0])
        self.assertTrue({None, 0, 1, 2, 3} <= found)

    def test_one_way_alone(self):
        both = put(STAIRS, OTHER, LEAST_OF)
        self.assertEqual([within(both, OTHER, 1), within(STAIRS, both, 1), within(OTHER, both, 1)], [True, False, False])
        self.assertEqual(first_without(OTHER, STAIRS, 1), (1, 0, 1))
        self.assertEqual(first_without(STAIRS, OTHER, 0), (1, 0, 1))
        self.assertEqual([within(STAIRS, OTHER, shade) for shade in (2, 3)], [True, True])

    def test_late_cells(self):
        for length in (5, 63):
            one = chain(3, length, (1, 2))
            depth = length - 1
            place = (depth, int("1" * depth, 3), int("2" * depth, 3))
            self.assertEqual(first_without(one, (one[0], length), 1), place)
            self.assertEqual(first_without((one[0], length), one, 0), place)
        # The one has shade 1 at the depths 60, 121 .., the other has shade 0 at 63, 127 .. alone.
        one, other = ring(2, [0] * 60 + [1]), ring(2, [1] * 63 + [0])
        depth = next(n for n in range(61 * 64) if n % 61 == 60 and n % 64 == 63)
        self.assertEqual(depth, 61 * 64 - 1)
        self.assertEqual(first_without(one, other, 1), (depth, 0, 0))

    def test_wrong_arguments(self):
        for function in (within, first_without):
            self.pairs_refused(function, None)
            for shade in NO_SHADES:
                self.refused(InvalidShade, shade, function, STAIRS, OTHER, shade)


class SolvedTest(PromiseCase):
    def test_each_cell(self):
        tables = made_tables(45, 12)
        found = set()
        for number, (one, result) in enumerate(made_pairs(45, 25)):
            table = tables[number % len(tables)]
            greatest = DEPTHS[one[0][0]]
            barred = unsolved(one, result, table)
            made = solved(one, result, table)
            self.assertIs(made is None, barred is not None)
            found.add(barred and barred[0])
            if barred is None or barred[0] <= greatest:
                wanted = first_cell_where(one, result, range(greatest + 1), lambda s, r: r not in table[s])
                self.assertEqual(barred, wanted)
            if made is not None:
                self.assertIs(is_least(made), True)
                for depth in range(greatest):
                    wanted = [[table[s].index(r) for s, r in row] for row in paired_sheets(one, result, depth)]
                    self.assertEqual(shade_sheet(made, depth), wanted)
                self.assertTrue(alike(put(one, made, table), result))
        self.assertTrue({None, 0, 1, 2} <= found)

    def test_solved_exactly_if_there_is_a_picture(self):
        # All pictures of base 2 with one letter, and with two letters and the shades 0 and 1.
        rows = list(product(product((0, 1), repeat=2), repeat=2))
        book_blocks = list(product(rows, repeat=2))
        pictures = [((2, (s,), (((0, 0), (0, 0)),)), 0) for s in range(4)]
        pictures += [((2, (0, 1), blocks), letter) for blocks in book_blocks[::16] for letter in (0, 1)]
        for one, result in made_pairs(46, 3):
            if one[0][0] == 2:
                for table in (LEAST_OF, BOTH):
                    if unsolved(one, result, table) is not None:
                        self.assertFalse(any(alike(put(one, x, table), result) for x in pictures))

    def test_parity_always_has_one(self):
        self.assertEqual(solved(STAIRS, OTHER, PARITY), put(STAIRS, OTHER, PARITY))
        self.assertIsNone(unsolved(STAIRS, OTHER, PARITY))
        self.assertIsNone(solved(STAIRS, OTHER, LEAST_OF))

    def test_least_shades(self):
        # Shade 0 of the result is told by each of the shades 1 to 3: the least one is taken.
        table = ((1, 0, 0, 0), (1, 0, 0, 0), (1, 0, 0, 0), (1, 0, 0, 0))
        self.assertEqual(solved(STAIRS, STAIRS, table), mapped(STAIRS, (1, 0, 0, 0)))

    def test_too_many(self):
        one, result = ring(2, [0] * 7 + [1]), ring(2, [0] * 8 + [1])
        self.refused(TooMany, 72, solved, one, result, PARITY)
        self.assertIsNone(unsolved(one, result, PARITY))
        # Where a cell has no shade, None goes ahead.
        barred = ((0, 0, 0, 0), (1, 1, 1, 1), (0, 0, 0, 0), (0, 0, 0, 0))
        self.assertIsNone(solved(one, result, barred))
        self.assertEqual(unsolved(one, result, barred), (7, 0, 0))
        one, result = ring(4, [0] * 60 + [1]), ring(4, [0] * 63 + [1])
        self.refused(TooMany, 61 * 64, solved, one, result, PARITY)

    def test_wrong_arguments(self):
        self.pairs_refused(solved, None)
        self.pairs_refused(unsolved, None)


if __name__ == "__main__":
    unittest.main()
