import unittest
from fractions import Fraction
from random import Random

from everydepth.centres import centre, first_unlike_moments, moments, moments_in, spread
from everydepth.counts import counts
from everydepth.errors import InvalidDepth, InvalidRectangle, InvalidShade
from everydepth.rectangles import in_rectangle
from everydepth.together import put
from everydepth.turns import turned
from tests.helper import PromiseCase
from tests.model import CARPET, PARITY, STAIRS, chain, made_picture, renamed, ring
from tests.model_numbers import NO_SHADES
from tests.model_places import DEPTHS, NO_RECTANGLES, shade_places, some_pictures


def plain_moments(places):
    return (len(places), sum(r for r, _ in places), sum(c for _, c in places), sum(r * r for r, _ in places),
            sum(c * c for _, c in places), sum(r * c for r, c in places))


def pair(fraction):
    return (fraction.numerator, fraction.denominator)


def plain_centre(places):
    if not places:
        return None
    return (pair(Fraction(sum(r for r, _ in places), len(places))), pair(Fraction(sum(c for _, c in places), len(places))))


def plain_spread(places):
    if not places:
        return None
    row, column = [Fraction(*mean) for mean in plain_centre(places)]
    return pair(sum((r - row) ** 2 + (c - column) ** 2 for r, c in places) / len(places))


def moved_moments(told, down, right):
    """The moments of cells moved by so many rows and columns."""
    many, rows, columns, row_squares, column_squares, products = told
    return (many, rows + down * many, columns + right * many, row_squares + 2 * down * rows + down * down * many,
            column_squares + 2 * right * columns + right * right * many,
            products + down * columns + right * rows + down * right * many)


def added(*several):
    return tuple(map(sum, zip(*several)))


class MomentsTest(PromiseCase):
    def test_examples(self):
        self.assertEqual(
            [moments(CARPET, 1, 0), centre(CARPET, 1, 1), spread(CARPET, 1, 1), first_unlike_moments(CARPET, CARPET, 1)],
            [(1, 1, 1, 1, 1, 1), ((1, 1), (1, 1)), (3, 2), None])

    def test_cells_one_by_one(self):
        random = Random(1)
        found = set()
        for picture in some_pictures(201, 40):
            for depth in range(DEPTHS[picture[0][0]]):
                side = picture[0][0] ** depth
                for shade in range(4):
                    places = shade_places(picture, depth, shade)
                    self.assertEqual(moments(picture, depth, shade), plain_moments(places))
                    self.assertEqual(centre(picture, depth, shade), plain_centre(places))
                    self.assertEqual(spread(picture, depth, shade), plain_spread(places))
                    found.add(min(len(places), 2))
                    some = [(0, 0, side, side), (0, 0, 0, side), (side, 0, side, side), (0, side, side, side)]
                    for _ in range(5):
                        top, below = sorted(random.randrange(side + 1) for _ in range(2))
                        left, right = sorted(random.randrange(side + 1) for _ in range(2))
                        some.append((top, left, below, right))
                    for top, left, below, right in some:
                        inside = [(r, c) for r, c in places if top <= r < below and left <= c < right]
                        self.assertEqual(moments_in(picture, depth, shade, (top, left, below, right)), plain_moments(inside))
        self.assertEqual(found, {0, 1, 2})

    def test_great_depths(self):
        random = Random(2)
        for picture in some_pictures(202, 16):
            base = picture[0][0]
            side = base ** 90
            blocks = [((picture[0], inner), i, j)
                      for i, row in enumerate(picture[0][2][picture[1]]) for j, inner in enumerate(row)]
            row, column = random.randrange(side), random.randrange(side)
            for shade in set(picture[0][1]):
                whole = moments(picture, 90, shade)
                self.assertEqual(whole[0], counts(picture, 90)[shade])
                self.assertEqual(moments_in(picture, 90, shade, (0, 0, side, side)), whole)
                # The sums of the parts, each moved to its place.
                parts = [moved_moments(moments(part, 89, shade), i * side // base, j * side // base)
                         for part, i, j in blocks]
                self.assertEqual(added(*parts), whole)
                # Four rectangles around a place.
                told = [moments_in(picture, 90, shade, rectangle) for rectangle in [
                    (0, 0, row, column), (0, column, row, side), (row, 0, side, column), (row, column, side, side)]]
                self.assertEqual(added(*told), whole)
                rectangle = (row // 3, column // 2, row, column)
                self.assertEqual(moments_in(picture, 90, shade, rectangle)[0], in_rectangle(picture, 90, rectangle)[shade])
                one = moments_in(picture, 90, shade, (row, column, row + 1, column + 1))
                self.assertIn(one, [(0,) * 6, (1, row, column, row * row, column * column, row * column)])

    def test_centres_of_turned_sheets(self):
        for picture in some_pictures(203, 12):
            side = picture[0][0] ** 60
            for shade in set(picture[0][1]):
                told = centre(picture, 60, shade)
                for turn in range(8):
                    other = turned(picture, turn)
                    self.assertEqual(spread(other, 60, shade), spread(picture, 60, shade))
                    if told is None:
                        self.assertIsNone(centre(other, 60, shade))
                        continue
                    row, column = [Fraction(*mean) for mean in told]
                    if turn >= 4:
                        column = side - 1 - column
                    for _ in range(turn % 4):
                        row, column = column, side - 1 - row
                    self.assertEqual(centre(other, 60, shade), (pair(row), pair(column)))

    def test_wide_pictures(self):
        wide = put(made_picture(Random(5), 2, 8), made_picture(Random(6), 2, 8), PARITY)
        places = shade_places(wide, 6, 2)
        self.assertEqual(moments(wide, 6, 2), plain_moments(places))
        inside = [(r, c) for r, c in places if 3 <= r < 50 and 7 <= c < 61]
        self.assertEqual(moments_in(wide, 6, 2, (3, 7, 50, 61)), plain_moments(inside))
        self.assertEqual(moments(wide, 90, 2)[0], counts(wide, 90)[2])

    def test_depth_0_and_no_cell(self):
        self.assertEqual([moments(STAIRS, 0, 1), moments(STAIRS, 0, 0), moments(STAIRS, 90, 3)],
                         [(1, 0, 0, 0, 0, 0), (0,) * 6, (0,) * 6])
        self.assertEqual([centre(STAIRS, 0, 1), centre(STAIRS, 0, 0), centre(STAIRS, 90, 3)], [((0, 1), (0, 1)), None, None])
        self.assertEqual([spread(STAIRS, 0, 1), spread(STAIRS, 0, 0), spread(STAIRS, 90, 3)], [(0, 1), None, None])
        self.assertEqual(moments_in(STAIRS, 90, 0, (5, 5, 5, 2 ** 90)), (0,) * 6)
        late = chain(2, 63, (1, 0))
        self.assertEqual(centre(late, 62, 1), ((2 ** 62 - 1, 1), (0, 1)))
        self.assertEqual([centre(late, depth, 1) for depth in (61, 63)], [None, None])
        # All cells of a sheet are around its middle.
        self.assertEqual(centre(ring(4, [2]), 90, 2), ((4 ** 90 - 1, 2), (4 ** 90 - 1, 2)))


class UnlikeMomentsTest(PromiseCase):
    def first_unlike(self, one, other, shade, depths):
        for depth in range(depths):
            if moments(one, depth, shade) != moments(other, depth, shade):
                return depth
        return None

    def test_depth_by_depth(self):
        random = Random(3)
        found = set()
        pictures = some_pictures(204, 40)
        for one in pictures:
            base = one[0][0]
            others = [random.choice([picture for picture in pictures if picture[0][0] == base]), renamed(one), one,
                      turned(one, random.randrange(8)), (one[0], random.randrange(len(one[0][1])))]
            for other in others:
                for shade in range(4):
                    told = first_unlike_moments(one, other, shade)
                    # Fact M1.
                    many = 6 * (len(one[0][1]) + len(other[0][1]))
                    self.assertEqual(told, self.first_unlike(one, other, shade, min(many, 40)))
                    found.add(told)
        self.assertTrue({None, 0, 1, 2} <= found)

    def test_same_numbers_and_other_places(self):
        # The cell in one corner and that in the other one, on one row, and on one column.
        def corner(i, j):
            return ((2, (0, 1), (tuple(tuple(int((r, c) == (i, j)) for c in range(2)) for r in range(2)),
                                 ((0, 0), (0, 0)))), 0)
        self.assertEqual(first_unlike_moments(corner(0, 0), corner(0, 1), 1), 1)
        self.assertEqual(first_unlike_moments(corner(0, 0), corner(1, 0), 1), 1)
        self.assertIsNone(first_unlike_moments(corner(0, 1), corner(0, 1), 1))
        # Both diagonals have the same numbers, rows and columns, but other products.
        falling = ((2, (0, 1, 0), (((1, 2), (2, 1)), ((1, 1), (1, 1)), ((2, 2), (2, 2)))), 0)
        rising = turned(falling, 1)
        self.assertEqual(moments(falling, 1, 1)[:5], moments(rising, 1, 1)[:5])
        self.assertEqual(first_unlike_moments(falling, rising, 1), 1)

    def test_unlike_late_alone(self):
        late, blank = chain(2, 30, (1, 0)), ring(2, [0])
        self.assertEqual(first_unlike_moments(late, blank, 1), 29)
        self.assertEqual(first_unlike_moments(late, chain(2, 30, (0, 1)), 1), 29)
        self.assertIsNone(first_unlike_moments(late, chain(2, 30, (0, 1)), 2))
        self.assertEqual(first_unlike_moments(late, chain(2, 31, (1, 0)), 0), 29)

    def test_unlike_sheets_with_the_same_moments(self):
        # Four cells each around the middle of a board of four by four: as far from it, but not at the same places.
        def board(cells):
            rows = tuple(tuple(1 if (r, c) in cells else 0 for c in range(4)) for r in range(4))
            return ((4, (0, 1), (rows, ((0,) * 4,) * 4)), 2 - 2)
        one = board([(0, 1), (1, 3), (3, 2), (2, 0)])
        other = board([(0, 2), (2, 3), (3, 1), (1, 0)])
        self.assertEqual(moments(one, 1, 1)[:5], moments(other, 1, 1)[:5])
        self.assertEqual(first_unlike_moments(one, other, 1), self.first_unlike(one, other, 1, 24))


class WrongArgumentsTest(PromiseCase):
    def test_pictures_depths_and_shades(self):
        for function, behind in [(moments, ()), (centre, ()), (spread, ()), (moments_in, (None,))]:
            self.pictures_refused(function, -1, None, *behind)
            self.refused(InvalidDepth, -1, function, STAIRS, -1, None, *behind)
            for shade in NO_SHADES:
                self.refused(InvalidShade, shade, function, STAIRS, 2, shade, *behind)
        self.pairs_refused(first_unlike_moments, None)
        for shade in NO_SHADES:
            self.refused(InvalidShade, shade, first_unlike_moments, STAIRS, STAIRS, shade)

    def test_rectangles(self):
        for value in NO_RECTANGLES:
            self.refused(InvalidRectangle, value, moments_in, STAIRS, 2, 1, value)


if __name__ == "__main__":
    unittest.main()
