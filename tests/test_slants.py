import unittest
from math import gcd
from random import Random

from everydepth.cells import shade_at
from everydepth.counts import counts
from everydepth.errors import (
    InvalidDepth, InvalidNumber, InvalidPlace, InvalidShade, InvalidSlant, InvalidSlope,
)
from everydepth.lines import line_cell, line_counts
from everydepth.moves import pairs_at, round_pairs
from everydepth.slants import (
    ahead_of_slant, corner_counts_unlike, corner_parting, corner_shades, nth_on, number_on, on_slant,
)
from everydepth.together import put
from everydepth.turns import turned
from tests.helper import PromiseCase
from tests.model import CARPET, PARITY, STAIRS, chain, made_picture, renamed, ring, shade_sheet
from tests.model_numbers import NO_SHADES
from tests.model_places import DEPTHS, some_pictures

SLOPES = [(down, right) for down in (1, 2, 3) for right in (1, 2, 3) if gcd(down, right) == 1]
SIGNED = [(p, q) for p in range(-3, 4) for q in range(-3, 4) if gcd(p, q) == 1]
FAR = 10 ** 119
NO_SLANTS = [
    None, 0, True, "110", "", [], (), {}, set(), object(), [1, 1, 0], (1, 1), (1, 1, 0, 0), (1, None, 0), (1, 1, None),
    (1, 1, "0"), (1, 1, True), (True, 1, 0), (1, False, 0), (0, 0, 0), (2, 2, 0), (3, 3, 1), (-3, 3, 0), (0, 2, 0),
    (-2, 0, 0), (3, 0, 5), (4, 1, 0), (1, -4, 0), (10 ** 100, 1, 0), ([1], 1, 0), (1, [1, [2]], 0), ((1, 1), 0, 0),
]
NO_SLOPES = [
    None, 0, True, "11", [], (), {}, object(), [1, 1], (1,), (1, 1, 1), (1, None), (None, 1), (1, "1"), (1, True),
    (True, 1), (0, 1), (1, 0), (-1, 1), (1, -1), (2, 2), (3, 3), (4, 1), (1, 4), (10 ** 100, 1), ([1], 1), (1, [[1]]),
]


def plain_counts(shades):
    return tuple(shades.count(shade) for shade in range(4))


def corner_line(picture, depth, slope):
    rows = shade_sheet(picture, depth)
    down, right = slope
    return [rows[down * t][right * t] for t in range(len(rows)) if max(slope) * t < len(rows)]


class SlantsTest(PromiseCase):
    def test_examples(self):
        self.assertEqual(
            [on_slant(CARPET, 1, (1, -1, 0)), ahead_of_slant(CARPET, 1, (1, 1, 2)), nth_on(CARPET, 1, (1, -1, 0), 1, 1),
             corner_parting(CARPET, (CARPET[0], 1), (1, 1)), corner_shades(CARPET, (1, 2))],
            [(1, 2, 0, 0), (0, 3, 0, 0), (2, 2), (0, 0), (1,)])

    def test_cells_one_by_one(self):
        random = Random(1)
        pictures = some_pictures(231, 40)
        found = set()
        for number, picture in enumerate(pictures):
            for depth in range(DEPTHS[picture[0][0]]):
                rows = shade_sheet(picture, depth)
                side = len(rows)
                cells = [(r, c, shade) for r, row in enumerate(rows) for c, shade in enumerate(row)]
                for p, q in random.sample(SIGNED, 6) + [SIGNED[number % len(SIGNED)]]:
                    row, column = random.randrange(side), random.randrange(side)
                    k = random.choice([p * row + q * column, random.randrange(-6 * side, 6 * side + 1), FAR, -FAR])
                    on = [cell for cell in cells if p * cell[0] + q * cell[1] == k]
                    ahead = [shade for r, c, shade in cells if p * r + q * c < k]
                    self.assertEqual(on_slant(picture, depth, (p, q, k)), plain_counts([shade for _, _, shade in on]))
                    self.assertEqual(ahead_of_slant(picture, depth, (p, q, k)), plain_counts(ahead))
                    self.places_told(random, picture, depth, (p, q, k), on)
                    found.add((p, q))
        self.assertEqual(len(found), len(SIGNED))

    def places_told(self, random, picture, depth, slant, on):
        side = picture[0][0] ** depth
        for shade in range(4):
            places = [(r, c) for r, c, own in on if own == shade]
            for number, place in enumerate(places):
                self.assertEqual(nth_on(picture, depth, slant, shade, number), place)
            for number in (len(places), FAR):
                self.assertIsNone(nth_on(picture, depth, slant, shade, number))
            some = [(random.randrange(side), random.randrange(side)), (0, 0), (side - 1, side - 1)] + places[:2]
            for row, column in some:
                wanted = len([place for place in places if place < (row, column)])
                self.assertEqual(number_on(picture, depth, slant, shade, row, column), wanted)

    def test_depths_of_90(self):
        random = Random(2)
        for picture in some_pictures(232, 16):
            side = picture[0][0] ** 90
            whole = counts(picture, 90)
            for p, q in random.sample(SIGNED, 5):
                k = p * random.randrange(side) + q * random.randrange(side)
                on = on_slant(picture, 90, (p, q, k))
                self.assertEqual(on_slant(picture, 90, (-p, -q, -k)), on)
                # Ahead of a slant, on it and behind it there is the whole sheet.
                parts = [ahead_of_slant(picture, 90, (p, q, k)), on, ahead_of_slant(picture, 90, (-p, -q, -k))]
                self.assertEqual(tuple(map(sum, zip(*parts))), whole)
                self.assertEqual(ahead_of_slant(picture, 90, (p, q, k + 1)),
                                 tuple(map(sum, zip(parts[0], on))))
                for shade in range(4):
                    for number in {0, on[shade] // 2, on[shade] - 1} if on[shade] else ():
                        row, column = nth_on(picture, 90, (p, q, k), shade, number)
                        self.assertEqual(p * row + q * column, k)
                        self.assertEqual(shade_at(picture, 90, row, column), shade)
                        self.assertEqual(number_on(picture, 90, (p, q, k), shade, row, column), number)
                        self.assertEqual(nth_on(picture, 90, (-p, -q, -k), shade, number), (row, column))
                    self.assertIsNone(nth_on(picture, 90, (p, q, k), shade, on[shade]))

    def test_rows_and_columns(self):
        random = Random(3)
        for picture in some_pictures(233, 12):
            side = picture[0][0] ** 50
            for line in (0, side - 1, random.randrange(side)):
                for sign in (1, -1):
                    self.assertEqual(on_slant(picture, 50, (sign, 0, sign * line)), line_counts(picture, 50, "row", line))
                    self.assertEqual(on_slant(picture, 50, (0, sign, sign * line)), line_counts(picture, 50, "column", line))
                    for shade in set(picture[0][1]):
                        column = line_cell(picture, 50, "row", line, shade, 3)
                        wanted = None if column is None else (line, column)
                        self.assertEqual(nth_on(picture, 50, (sign, 0, sign * line), shade, 3), wanted)
                        row = line_cell(picture, 50, "column", line, shade, 3)
                        wanted = None if row is None else (row, line)
                        self.assertEqual(nth_on(picture, 50, (0, sign, sign * line), shade, 3), wanted)

    def test_beside_the_sheet_and_far_from_it(self):
        for k in (-1, 8, -FAR, FAR):
            for p, q in [(1, 0), (0, 1), (1, 1), (3, 2)]:
                if k == 8 and p * q:
                    continue
                self.assertEqual(on_slant(STAIRS, 3, (p, q, k)), (0, 0, 0, 0))
                self.assertEqual(ahead_of_slant(STAIRS, 3, (p, q, k)), counts(STAIRS, 3) if k > 0 else (0, 0, 0, 0))
                self.assertEqual(number_on(STAIRS, 3, (p, q, k), 1, 7, 7), 0)
                self.assertIsNone(nth_on(STAIRS, 3, (p, q, k), 1, 0))
        # Only the corners.
        self.assertEqual(on_slant(CARPET, 90, (2, 3, 5 * (3 ** 90 - 1))), (0, 1, 0, 0))
        self.assertEqual(on_slant(CARPET, 90, (2, 3, 5 * (3 ** 90 - 1) + 1)), (0, 0, 0, 0))
        self.assertEqual(nth_on(CARPET, 90, (-3, 2, 2 * (3 ** 90 - 1)), 1, 0), (0, 3 ** 90 - 1))
        self.assertEqual(ahead_of_slant(CARPET, 90, (-3, 2, 2 - 3 * 3 ** 90)), (0, 0, 0, 0))

    def test_depth_0(self):
        self.assertEqual([on_slant(STAIRS, 0, (2, -3, k)) for k in (-1, 0, 1)], [(0, 0, 0, 0), (0, 1, 0, 0), (0, 0, 0, 0)])
        self.assertEqual([ahead_of_slant(STAIRS, 0, (2, -3, k)) for k in (-1, 0, 1)],
                         [(0, 0, 0, 0), (0, 0, 0, 0), (0, 1, 0, 0)])
        self.assertEqual([nth_on(STAIRS, 0, (1, 1, 0), 1, 0), nth_on(STAIRS, 0, (1, 1, 0), 1, 1)], [(0, 0), None])
        self.assertEqual(number_on(STAIRS, 0, (1, 0, 0), 1, 0, 0), 0)

    def test_wide_pictures(self):
        wide = put(made_picture(Random(5), 2, 8), made_picture(Random(6), 2, 8), PARITY)
        rows = shade_sheet(wide, 5)
        cells = [(r, c, shade) for r, row in enumerate(rows) for c, shade in enumerate(row)]
        for p, q, k in [(2, -3, 5), (1, 1, 40), (-3, -1, -70)]:
            wanted = plain_counts([shade for r, c, shade in cells if p * r + q * c == k])
            self.assertEqual(on_slant(wide, 5, (p, q, k)), wanted)
            wanted = plain_counts([shade for r, c, shade in cells if p * r + q * c < k])
            self.assertEqual(ahead_of_slant(wide, 5, (p, q, k)), wanted)
        self.assertIsNone(corner_parting(wide, renamed(wide) if len(wide[0][1]) < 64 else wide, (3, 2)))


class CornersTest(PromiseCase):
    def test_depth_by_depth(self):
        random = Random(4)
        pictures = some_pictures(234, 50)
        found, numbers, shades_found = set(), set(), set()
        for one in pictures:
            base = one[0][0]
            others = [random.choice([picture for picture in pictures if picture[0][0] == base]), renamed(one),
                      (one[0], random.randrange(len(one[0][1])))]
            other = random.choice(others)
            depths = {2: 6, 3: 4, 4: 4}[base]
            for slope in SLOPES:
                parted, unlike, shades = None, {}, set()
                for depth in range(depths):
                    line, other_line = corner_line(one, depth, slope), corner_line(other, depth, slope)
                    shades |= set(line)
                    if parted is None and line != other_line:
                        parted = (depth, next(t for t, (a, b) in enumerate(zip(line, other_line)) if a != b))
                    for shade in range(4):
                        if line.count(shade) != other_line.count(shade):
                            unlike.setdefault(shade, depth)
                told = corner_parting(one, other, slope)
                self.assertTrue(told == parted or parted is None and told[0] >= depths)
                found.add(parted)
                for shade in range(4):
                    told, wanted = corner_counts_unlike(one, other, slope, shade), unlike.get(shade)
                    self.assertTrue(told == wanted or wanted is None and told >= depths)
                    numbers.add(wanted)
                told = corner_shades(one, slope)
                self.assertEqual(list(told), sorted(set(told)))
                self.assertTrue(shades <= set(told))
                for shade in set(told) - shades:
                    self.assertTrue(any(on_slant(one, depth, (slope[1], -slope[0], 0))[shade] for depth in range(depths, 60)))
                shades_found.add(told)
        self.assertTrue({None, (0, 0), (1, 1), (2, 1)} <= found, found)
        self.assertTrue({None, 0, 1, 2} <= numbers)
        self.assertTrue({(0,), (0, 1)} <= shades_found)

    def test_all_slopes_that_part_late(self):
        # In a chain the one cell stands at a place (row, column) of depth 12 alone.
        blank = ring(2, [0])
        for down, right in SLOPES:
            for t in (1, 700, 1365):
                row, column = down * t, right * t
                late = placed(12, row, column)
                self.assertEqual(shade_at(late, 12, row, column), 1)
                for slope in SLOPES:
                    on_line = slope == (down, right)
                    self.assertEqual(corner_parting(late, blank, slope), (12, t) if on_line else None)
                    self.assertEqual(corner_counts_unlike(blank, late, slope, 1), 12 if on_line else None)
                    self.assertEqual(corner_shades(late, slope), (0, 1) if on_line else (0,))

    def test_one_shades_number_alone(self):
        # At the corner line's second place there is shade 1, then 2; what stands beside it does not count.
        one = ((2, (0, 1, 2), (((0, 0), (1, 1)), ((1, 1), (1, 1)), ((2, 2), (2, 2)))), 0)
        other = ((2, (0, 1, 2), (((0, 1), (2, 1)), ((1, 1), (1, 1)), ((2, 2), (2, 2)))), 0)
        self.assertIsNone(corner_parting(one, other, (1, 1)))
        self.assertEqual([corner_counts_unlike(one, other, (2, 1), shade) for shade in range(4)], [None, 2, 2, None])
        self.assertEqual(corner_parting(one, other, (2, 1)), (2, 1))


def placed(depth, row, column):
    """A picture with base 2 that has one cell of shade 1, at this depth and place."""
    blank = depth + 1
    blocks = []
    for at in range(depth):
        figures = ((row >> (depth - 1 - at)) & 1, (column >> (depth - 1 - at)) & 1)
        blocks.append(tuple(tuple(at + 1 if (i, j) == figures else blank for j in range(2)) for i in range(2)))
    blocks += [((blank, blank), (blank, blank))] * 2
    return ((2, (0,) * depth + (1, 0), tuple(blocks)), 0)


class TurnsAndMovesTest(PromiseCase):
    """Slants, turned sheets and moves together."""

    def test_turned_slants(self):
        random = Random(5)
        for picture in some_pictures(235, 16):
            last = picture[0][0] ** 40 - 1
            for p, q in random.sample(SIGNED, 4):
                k = p * random.randrange(last + 1) + q * random.randrange(last + 1)
                on, ahead = on_slant(picture, 40, (p, q, k)), ahead_of_slant(picture, 40, (p, q, k))
                for turn in range(8):
                    slant = turned_slant(p, q, k, turn, last)
                    self.assertEqual(on_slant(turned(picture, turn), 40, slant), on)
                    self.assertEqual(ahead_of_slant(turned(picture, turn), 40, slant), ahead)

    def test_moved_pairs(self):
        random = Random(6)
        for picture in some_pictures(236, 12):
            base = picture[0][0]
            side = base ** 30
            down, right = random.randrange(side), random.randrange(side)
            table = pairs_at(picture, picture, 30, (down, right))
            back = pairs_at(picture, picture, 30, (-down, -right))
            self.assertEqual(back, tuple(zip(*table)))
            around = round_pairs(picture, picture, 30, (down, right))
            self.assertEqual(round_pairs(picture, picture, 30, (-down, -right)), tuple(zip(*around)))
            # Both turned by two quarters, the move is the other way round.
            half = turned(picture, 2)
            self.assertEqual(pairs_at(half, half, 30, (-down, -right)), table)
            self.assertEqual(round_pairs(half, half, 30, (side - down, -right)), around)
            # Mirrored along the falling slant, rows and columns change their places.
            other = turned(picture, 7)
            self.assertEqual(pairs_at(other, other, 30, (right, down)), table)
            for k in (0, down - right):
                self.assertEqual(on_slant(other, 30, (1, -1, -k)), on_slant(picture, 30, (1, -1, k)))

    def test_slants_that_stay_under_a_move(self):
        # Stripes that lean: each slant row + column = k has one shade, and moves along it leave all shades.
        leaning = ((3, (0, 1, 2), (((0, 1, 2), (1, 2, 0), (2, 0, 1)),) * 3), 0)
        for k in (0, 5, 3 ** 40, 2 * 3 ** 40 - 2):
            on = on_slant(leaning, 40, (1, 1, k))
            self.assertEqual([shade for shade in range(4) if on[shade]], [k % 3])
        table = pairs_at(leaning, leaning, 40, (7, -7))
        self.assertEqual([table[s][t] for s in range(4) for t in range(4) if s != t], [0] * 12)
        self.assertEqual(corner_shades(leaning, (1, 2)), (0,))
        self.assertEqual(corner_shades(leaning, (1, 1)), (0, 1, 2))


def turned_slant(p, q, k, turn, last):
    """Where a turn brings a slant; last is the greatest row and column."""
    if turn >= 4:
        # A column becomes the last one less it.
        q, k = -q, k - q * last
    for _ in range(turn % 4):
        # The cell (row, column) goes to (column, last - row): so its row was last less the new column.
        p, q, k = q, -p, k - p * last
    return (p, q, k)


class WrongArgumentsTest(PromiseCase):
    def test_pictures_depths_and_slants(self):
        for function, behind in [(on_slant, ()), (ahead_of_slant, ()), (number_on, (None, -1, -1)), (nth_on, (None, -1))]:
            self.pictures_refused(function, -1, None, *behind)
            self.refused(InvalidDepth, -1, function, STAIRS, -1, None, *behind)
            for slant in NO_SLANTS:
                self.refused(InvalidSlant, slant, function, STAIRS, 2, slant, *behind)

    def test_shades_places_and_numbers(self):
        for shade in NO_SHADES:
            self.refused(InvalidShade, shade, number_on, STAIRS, 2, (1, 1, 0), shade, -1, -1)
            self.refused(InvalidShade, shade, nth_on, STAIRS, 2, (1, 0, 9), shade, -1)
        for slant in [(1, 1, 0), (1, 0, 9), (0, 1, FAR)]:
            for row, column in [(-1, 0), (0, -1), (4, 0), (0, 4), (FAR, FAR)]:
                self.refused(InvalidPlace, (row, column), number_on, STAIRS, 2, slant, 1, row, column)
            for number in (-1, -FAR):
                self.refused(InvalidNumber, number, nth_on, STAIRS, 2, slant, 1, number)

    def test_slopes(self):
        self.pairs_refused(corner_parting, None)
        self.pairs_refused(corner_counts_unlike, None, None)
        self.pictures_refused(corner_shades, None)
        for slope in NO_SLOPES:
            self.refused(InvalidSlope, slope, corner_parting, STAIRS, STAIRS, slope)
            self.refused(InvalidSlope, slope, corner_counts_unlike, STAIRS, STAIRS, slope, None)
            self.refused(InvalidSlope, slope, corner_shades, STAIRS, slope)
        for shade in NO_SHADES:
            self.refused(InvalidShade, shade, corner_counts_unlike, STAIRS, STAIRS, (1, 1), shade)


if __name__ == "__main__":
    unittest.main()
