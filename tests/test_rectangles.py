import unittest
from random import Random

from everydepth.counts import counts
from everydepth.errors import InvalidDepth, InvalidNumber, InvalidPlace, InvalidRectangle, InvalidShade
from everydepth.cells import shade_at
from everydepth.rectangles import frame, in_rectangle, last_ahead, next_cell, nth_cell, number_of
from everydepth.together import put
from tests.helper import PromiseCase
from tests.model import CARPET, PARITY, STAIRS, chain, made_picture, ring, shade_sheet
from tests.model_numbers import NO_SHADES
from tests.model_places import DEPTHS, NO_RECTANGLES, shade_places, some_pictures


def plain_frame(places):
    if not places:
        return None
    rows, columns = zip(*places)
    return (min(rows), min(columns), max(rows) + 1, max(columns) + 1)


class RectanglesTest(PromiseCase):
    def test_examples(self):
        self.assertEqual(
            [in_rectangle(CARPET, 2, (0, 0, 3, 3)), in_rectangle(CARPET, 2, (3, 3, 6, 6)), nth_cell(CARPET, 30, 0, 0),
             nth_cell(CARPET, 1, 0, 1)],
            [(1, 8, 0, 0), (9, 0, 0, 0), (1, 1), None])
        self.assertEqual(
            [number_of(CARPET, 1, 1, 2, 0), next_cell(CARPET, 1, 1, 1, 1), last_ahead(CARPET, 1, 1, 1, 1),
             frame(CARPET, 1, 0)],
            [5, (1, 2), (1, 0), (1, 1, 2, 2)])

    def test_rectangles_counted_one_by_one(self):
        random = Random(1)
        for picture in some_pictures(91, 40):
            for depth in range(DEPTHS[picture[0][0]]):
                rows = shade_sheet(picture, depth)
                side = len(rows)
                some = [(0, 0, side, side), (0, 0, 0, 0), (side, 0, side, side), (0, side, side, side), (0, 0, 1, 1)]
                for _ in range(8):
                    top, below = sorted(random.randrange(side + 1) for _ in range(2))
                    left, right = sorted(random.randrange(side + 1) for _ in range(2))
                    some.append((top, left, below, right))
                for top, left, below, right in some:
                    cells = [shade for row in rows[top:below] for shade in row[left:right]]
                    wanted = tuple(cells.count(shade) for shade in range(4))
                    self.assertEqual(in_rectangle(picture, depth, (top, left, below, right)), wanted)

    def test_great_rectangles(self):
        random = Random(2)
        for picture in some_pictures(92, 16):
            side = picture[0][0] ** 90
            self.assertEqual(in_rectangle(picture, 90, (0, 0, side, side)), counts(picture, 90))
            row, column = random.randrange(side), random.randrange(side)
            top, left = random.randrange(row + 1), random.randrange(column + 1)
            # Four rectangles around a place make up the one that they are cut from.
            whole = in_rectangle(picture, 90, (top, left, side, side))
            parts = [(top, left, row, column), (top, column, row, side), (row, left, side, column),
                     (row, column, side, side)]
            told = [in_rectangle(picture, 90, part) for part in parts]
            self.assertEqual(tuple(map(sum, zip(*told))), whole)
            one = in_rectangle(picture, 90, (row, column, row + 1, column + 1))
            self.assertEqual(one.index(1), shade_at(picture, 90, row, column))
            self.assertEqual(sum(one), 1)
            for part in [(row, column, row, side), (row, column, side, column), (side, side, side, side)]:
                self.assertEqual(in_rectangle(picture, 90, part), (0, 0, 0, 0))

    def test_wide_pictures(self):
        wide = put(made_picture(Random(5), 2, 8), made_picture(Random(6), 2, 8), PARITY)
        self.assertEqual(in_rectangle(wide, 90, (0, 0, 2 ** 90, 2 ** 90)), counts(wide, 90))
        rows = shade_sheet(wide, 6)
        cells = [shade for row in rows[3:50] for shade in row[7:61]]
        self.assertEqual(in_rectangle(wide, 6, (3, 7, 50, 61)), tuple(cells.count(shade) for shade in range(4)))
        places = shade_places(wide, 6, 2)
        for number in (0, 100, len(places) - 1):
            self.assertEqual(nth_cell(wide, 6, 2, number), places[number])

    def test_cells_in_reading_order(self):
        random = Random(3)
        for picture in some_pictures(93, 30):
            for depth in range(DEPTHS[picture[0][0]]):
                side = picture[0][0] ** depth
                for shade in range(4):
                    places = shade_places(picture, depth, shade)
                    self.assertEqual(frame(picture, depth, shade), plain_frame(places))
                    for number in {0, len(places) // 3, max(0, len(places) - 1)}:
                        wanted = places[number] if number < len(places) else None
                        self.assertEqual(nth_cell(picture, depth, shade, number), wanted)
                    for number in (len(places), len(places) + 1, 10 ** 119):
                        self.assertIsNone(nth_cell(picture, depth, shade, number))
                    cells = [(random.randrange(side), random.randrange(side)), (0, 0), (side - 1, side - 1)]
                    for row, column in cells + random.sample(places, min(2, len(places))):
                        ahead = [place for place in places if place < (row, column)]
                        behind = places[len(ahead):]
                        self.assertEqual(number_of(picture, depth, shade, row, column), len(ahead))
                        self.assertEqual(next_cell(picture, depth, shade, row, column), behind[0] if behind else None)
                        self.assertEqual(last_ahead(picture, depth, shade, row, column), ahead[-1] if ahead else None)

    def test_great_depths(self):
        random = Random(4)
        for picture in some_pictures(94, 16):
            side = picture[0][0] ** 90
            for shade in set(picture[0][1]):
                total = counts(picture, 90)[shade]
                if total == 0:
                    self.assertIsNone(frame(picture, 90, shade))
                    continue
                for number in {0, total // 2, total - 1, random.randrange(total)}:
                    row, column = nth_cell(picture, 90, shade, number)
                    self.assertEqual(number_of(picture, 90, shade, row, column), number)
                    self.assertEqual(shade_at(picture, 90, row, column), shade)
                    self.assertEqual(next_cell(picture, 90, shade, row, column), (row, column))
                    wanted = nth_cell(picture, 90, shade, number - 1) if number else None
                    self.assertEqual(last_ahead(picture, 90, shade, row, column), wanted)
                self.assertIsNone(nth_cell(picture, 90, shade, total))
                top, left, below, right = frame(picture, 90, shade)
                self.assertEqual(in_rectangle(picture, 90, (top, left, below, right))[shade], total)
                for line in [(top, 0, top + 1, side), (below - 1, 0, below, side), (0, left, side, left + 1),
                             (0, right - 1, side, right)]:
                    self.assertGreater(in_rectangle(picture, 90, line)[shade], 0)

    def test_one_cell_far_within(self):
        picture = ((3, (0, 1), (((0, 0, 0), (0, 0, 1), (0, 0, 0)), ((0,) * 3,) * 3)), 0)
        # Shade 1 at each place whose last figures are (1, 2), and whose figure ahead of them is another one.
        self.assertEqual(frame(picture, 2, 1), (1, 2, 8, 9))
        late = chain(2, 63, (1, 0))
        row = 2 ** 62 - 1
        self.assertEqual(frame(late, 62, 1), (row, 0, row + 1, 1))
        self.assertEqual(nth_cell(late, 62, 1, 0), (row, 0))
        self.assertEqual([frame(late, depth, 1) for depth in (61, 63, 90)], [None] * 3)
        self.assertEqual(next_cell(late, 62, 1, row, 0), (row, 0))
        self.assertIsNone(next_cell(late, 62, 1, row, 1))
        self.assertIsNone(last_ahead(late, 62, 1, row, 0))
        self.assertEqual(last_ahead(late, 62, 1, row, 1), (row, 0))
        self.assertEqual(number_of(late, 62, 0, row, 1), 2 ** 62 * row)

    def test_depth_0_and_shades_that_never_come(self):
        self.assertEqual([in_rectangle(STAIRS, 0, r) for r in [(0, 0, 1, 1), (0, 0, 0, 1), (1, 1, 1, 1)]],
                         [(0, 1, 0, 0), (0, 0, 0, 0), (0, 0, 0, 0)])
        self.assertEqual([frame(STAIRS, 0, 1), frame(STAIRS, 0, 0), frame(STAIRS, 90, 2)], [(0, 0, 1, 1), None, None])
        self.assertEqual([nth_cell(STAIRS, 0, 1, 0), nth_cell(STAIRS, 0, 1, 1), nth_cell(STAIRS, 90, 3, 0)],
                         [(0, 0), None, None])
        self.assertEqual([next_cell(STAIRS, 0, 1, 0, 0), last_ahead(STAIRS, 0, 1, 0, 0)], [(0, 0), None])
        self.assertEqual(number_of(STAIRS, 90, 2, 2 ** 90 - 1, 2 ** 90 - 1), 0)
        self.assertEqual(frame(ring(4, [1]), 90, 1), (0, 0, 4 ** 90, 4 ** 90))


class WrongArgumentsTest(PromiseCase):
    def test_pictures_depths_and_shades(self):
        self.pictures_refused(in_rectangle, -1, None)
        self.refused(InvalidDepth, -1, in_rectangle, STAIRS, -1, None)
        for function, behind in [(number_of, (-1, -1)), (next_cell, (-1, -1)), (last_ahead, (-1, -1)), (nth_cell, (-1,)),
                                 (frame, ())]:
            self.pictures_refused(function, -1, None, *behind)
            self.refused(InvalidDepth, -2, function, STAIRS, -2, None, *behind)
            for shade in NO_SHADES:
                self.refused(InvalidShade, shade, function, STAIRS, 2, shade, *behind)

    def test_rectangles(self):
        for value in NO_RECTANGLES:
            self.refused(InvalidRectangle, value, in_rectangle, STAIRS, 2, value)
        side = 3 ** 90
        for value in [(0, 0, side + 1, side), (0, 0, side, side + 1), (side, side, side, side + 1)]:
            self.refused(InvalidRectangle, value, in_rectangle, CARPET, 90, value)

    def test_places_and_numbers(self):
        for function in (number_of, next_cell, last_ahead):
            for row, column in [(-1, 0), (0, -1), (4, 0), (0, 4), (4, 4), (10 ** 100, 0)]:
                self.refused(InvalidPlace, (row, column), function, STAIRS, 2, 1, row, column)
            self.refused(InvalidPlace, (0, 1), function, STAIRS, 0, 1, 0, 1)
        for number in (-1, -10 ** 100):
            self.refused(InvalidNumber, number, nth_cell, STAIRS, 2, 1, number)


if __name__ == "__main__":
    unittest.main()
