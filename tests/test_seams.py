import unittest

from everydepth.errors import InvalidDepth, InvalidPicture, InvalidShade
from everydepth.seams import above, beside, border, first_unlike_pieces, pieces_less_holes, rim
from tests.helper import PromiseCase
from tests.model import CARPET, NO_PICTURES, STAIRS, chain, renamed, ring
from tests.model_numbers import (
    NO_SHADES, NO_SHADE_TUPLES, plain_border, plain_neighbours, plain_pieces, plain_rim,
)
from tests.test_patterns import few_letters

DEPTHS = {2: 6, 3: 4, 4: 3}
SOME = [(0,), (1,), (0, 1), (0, 2), (1, 2), (3,), (0, 1, 2, 3)]


class SeamsTest(PromiseCase):
    def test_examples(self):
        self.assertEqual(
            [beside(STAIRS, 1, 1, 0), above(STAIRS, 1, 0, 1), rim(STAIRS, 2, 1), border(STAIRS, 2, 1),
             pieces_less_holes(STAIRS, 2, (1,), False), pieces_less_holes(STAIRS, 2, (1,), True)],
            [1, 1, 10, 20, 1, 0])

    def test_cells_counted_one_by_one(self):
        for picture in few_letters(81, 30):
            for depth in range(DEPTHS[picture[0][0]]):
                left = plain_neighbours(picture, depth, 0, 1)
                upper = plain_neighbours(picture, depth, 1, 0)
                for one in range(3):
                    self.assertEqual(rim(picture, depth, one), plain_rim(picture, depth, one))
                    self.assertEqual(border(picture, depth, one), plain_border(picture, depth, one))
                    for other in range(3):
                        self.assertEqual(beside(picture, depth, one, other), left.count((one, other)))
                        self.assertEqual(above(picture, depth, one, other), upper.count((one, other)))

    def test_pieces_found_one_by_one(self):
        found = set()
        for picture in few_letters(82, 30):
            for depth in range(DEPTHS[picture[0][0]]):
                for shades in SOME:
                    for corners in (False, True):
                        wanted = plain_pieces(picture, depth, shades, corners)
                        self.assertEqual(pieces_less_holes(picture, depth, shades, corners), wanted)
                        found.add((corners, wanted > 1, wanted < 0))
        self.assertTrue({(c, a, b) for c in (False, True) for a, b in [(0, 0), (1, 0), (0, 1)]} <= found)

    def test_depth_0(self):
        for shade, sides in [(1, 4), (0, 0), (3, 0)]:
            self.assertEqual([rim(STAIRS, 0, shade), border(STAIRS, 0, shade)], [sides, sides])
            for corners in (False, True):
                self.assertEqual(pieces_less_holes(STAIRS, 0, (shade,), corners), sides // 4)
        self.assertEqual([beside(STAIRS, 0, 1, 1), above(STAIRS, 0, 1, 1)], [0, 0])

    def test_depths_of_90(self):
        whole = ring(3, [2])
        side = 3 ** 90
        self.assertEqual([beside(whole, 90, 2, 2), above(whole, 90, 2, 2)], [side * (side - 1)] * 2)
        self.assertEqual([rim(whole, 90, 2), border(whole, 90, 2)], [4 * side] * 2)
        for corners in (False, True):
            self.assertEqual(pieces_less_holes(whole, 90, (0, 2), corners), 1)
            self.assertEqual(pieces_less_holes(whole, 90, (0, 1, 3), corners), 0)
        # A letter that unfolds into the two shades of a board of cells, at each depth.
        board = ((2, (0, 1), (((0, 1), (1, 0)), ((0, 1), (1, 0)))), 0)
        side = 2 ** 90
        self.assertEqual(beside(board, 90, 0, 1), side * (side - 1) // 2)
        self.assertEqual(beside(board, 90, 0, 0), 0)
        self.assertEqual(pieces_less_holes(board, 90, (0,), False), side * side // 2)
        self.assertEqual(border(board, 90, 1), 2 * side * side)
        self.assertEqual(rim(board, 90, 1), 2 * side)
        # The holes of the carpet: one at depth 1, and 8 times as many and one more at each depth.
        self.assertEqual(pieces_less_holes(CARPET, 90, (1,), False), plain_carpet(90))
        self.assertEqual(pieces_less_holes(CARPET, 90, (0,), True), (8 ** 90 - 1) // 7)

    def test_pieces_that_touch_in_a_corner(self):
        picture = ((2, (0, 1, 0), (((1, 2), (2, 1)), ((1, 1), (1, 1)), ((2, 2), (2, 2)))), 0)
        self.assertEqual([pieces_less_holes(picture, 1, (1,), corners) for corners in (False, True)], [2, 1])
        # What is around a corner is a hole by neighbours alone, but reaches the rim by corners.
        block = ((0, 1, 0), (1, 0, 1), (0, 1, 0))
        cross = ((3, (0, 1), (block, ((1, 1, 1),) * 3)), 0)
        self.assertEqual([pieces_less_holes(cross, 1, (1,), corners) for corners in (False, True)], [4, 0])
        self.assertEqual([pieces_less_holes(cross, 1, (0,), corners) for corners in (False, True)], [5, 1])

    def test_first_unlike_pieces(self):
        pictures = few_letters(83, 24, 3)
        found = set()
        numbers = {}
        for shades, corners in [((0,), True), ((1, 2), False)]:
            for at, one in enumerate(pictures):
                for other in pictures[at + 1:at + 5] + [renamed(one)]:
                    for picture in (one, other):
                        if picture not in numbers:
                            numbers[picture] = [pieces_less_holes(picture, n, shades, corners) for n in range(25)]
                    pairs = list(zip(numbers[one], numbers[other]))
                    depths = [n for n, (a, b) in enumerate(pairs) if a != b]
                    told = first_unlike_pieces(one, other, shades, corners)
                    self.assertEqual(told, depths[0] if depths else None)
                    found.add((told, one[0][0] == other[0][0]))
            numbers = {}
        self.assertTrue({(None, True), (None, False), (0, True), (0, False), (1, True), (2, True)} <= found)

    def test_unlike_pieces_late(self):
        # The one cell comes at depth 29, that of the other one depth later.
        one, other = chain(2, 30, (0, 1)), chain(3, 31, (1, 1))
        for corners in (False, True):
            self.assertEqual(first_unlike_pieces(one, other, (1,), corners), 29)
            self.assertIsNone(first_unlike_pieces(one, chain(4, 30, (3, 2)), (1,), corners))
        self.assertIsNone(first_unlike_pieces(STAIRS, CARPET, (2, 3), True))

    def test_wrong_pictures_and_depths(self):
        for function in (beside, above):
            self.pictures_refused(function, -1, None, None)
            self.refused(InvalidDepth, -1, function, STAIRS, -1, None, None)
        for function in (rim, border):
            self.pictures_refused(function, -1, None)
            self.refused(InvalidDepth, -2, function, STAIRS, -2, None)
        self.pictures_refused(pieces_less_holes, -1, None, True)
        self.refused(InvalidDepth, -1, pieces_less_holes, STAIRS, -1, None, True)
        for value in NO_PICTURES:
            self.refused(InvalidPicture, value, first_unlike_pieces, value, None, None, True)
            self.refused(InvalidPicture, value, first_unlike_pieces, STAIRS, value, None, True)

    def test_wrong_shades(self):
        for shade in NO_SHADES:
            for function in (beside, above):
                self.refused(InvalidShade, shade, function, STAIRS, 2, shade, [])
                self.refused(InvalidShade, shade, function, STAIRS, 2, 1, shade)
            for function in (rim, border):
                self.refused(InvalidShade, shade, function, STAIRS, 2, shade)
        for shades in NO_SHADE_TUPLES:
            self.refused(InvalidShade, shades, pieces_less_holes, STAIRS, 2, shades, False)
            self.refused(InvalidShade, shades, first_unlike_pieces, STAIRS, CARPET, shades, False)


def plain_carpet(depth):
    """One piece less the holes of the carpet: its empty squares do not touch in corners."""
    return 1 - (8 ** depth - 1) // 7


if __name__ == "__main__":
    unittest.main()
