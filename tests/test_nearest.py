"""Cells nearest to a place and frames: row by row, by lines of blocks, and cell by cell."""

import unittest
from bisect import bisect_left
from random import Random

from everydepth.cells import figures_of, letter_at
from everydepth.nearest import (
    FEW_FIGURES, FEW_LINES, column_of_letters, frame_line_by_line, frame_of, has_few_lines, nearest_cell,
    nearest_row_by_row, row_of_letters,
)
from everydepth.rectangles import frame, last_ahead, next_cell
from tests.model import chain, letter_sheet
from tests.model_places import shade_places, some_pictures


class NearestTest(unittest.TestCase):
    def test_few_lines(self):
        for base in (2, 3, 4):
            for depth in range(91):
                self.assertIs(has_few_lines(base, depth), base ** depth <= FEW_LINES)
        self.assertTrue(2 ** FEW_FIGURES >= FEW_LINES)

    def test_lines_of_letters(self):
        for picture in some_pictures(401, 12):
            base = picture[0][0]
            for depth in range({2: 5, 3: 4, 4: 3}[base]):
                letters = letter_sheet(picture, depth)
                for line in range(base ** depth):
                    figures = figures_of(base, depth, line)
                    self.assertEqual(row_of_letters(picture, figures), letters[line])
                    self.assertEqual(column_of_letters(picture, figures), [row[line] for row in letters])

    def test_sheets_of_few_rows_and_of_more(self):
        # Each way is taken for each sheet, also where the other one would be the quicker one.
        random = Random(1)
        for picture in some_pictures(402, 32):
            base = picture[0][0]
            for depth in range({2: 7, 3: 5, 4: 4}[base]):
                side = base ** depth
                for shade in range(4):
                    places = shade_places(picture, depth, shade)
                    wanted = None
                    if places:
                        rows, columns = zip(*places)
                        wanted = (min(rows), min(columns), max(rows) + 1, max(columns) + 1)
                    self.assertEqual(frame(picture, depth, shade), wanted)
                    self.assertEqual(frame_line_by_line(picture, depth, shade), wanted)
                    some = [(0, 0), (0, side - 1), (side - 1, 0), (side - 1, side - 1)] + places[:2] + places[-2:]
                    some += [(random.randrange(side), random.randrange(side)) for _ in range(6)]
                    for place in some:
                        self.told(picture, depth, shade, place, places)

    def told(self, picture, depth, shade, place, places):
        at = bisect_left(places, place)
        ahead = places[at - 1] if at > 0 else None
        behind = places[at] if at < len(places) else None
        self.assertEqual(next_cell(picture, depth, shade, *place), behind)
        self.assertEqual(last_ahead(picture, depth, shade, *place), ahead)
        self.assertEqual(nearest_cell(picture, depth, shade, place, True), ahead)
        self.assertEqual(nearest_row_by_row(picture, depth, shade, place, True), ahead)
        if behind != place:
            self.assertEqual(nearest_cell(picture, depth, shade, place, False), behind)
            self.assertEqual(nearest_row_by_row(picture, depth, shade, place, False), behind)

    def test_one_cell(self):
        # One cell alone has the shade, in each corner; the letter stands in the book at all depths.
        for base, depth in [(2, 3), (2, 4), (2, 5), (3, 2), (3, 3), (4, 1), (4, 2), (4, 3)]:
            side = base ** depth
            for place in [(0, 0), (0, base - 1), (base - 1, 0), (base - 1, base - 1)]:
                late = chain(base, depth + 1, place)
                row, column = [(side - 1) * figure // (base - 1) for figure in place]
                self.assertEqual(frame(late, depth, 1), (row, column, row + 1, column + 1))
                self.assertIsNone(frame(late, depth - 1, 1))
                for other in [(0, 0), (side - 1, side - 1), (row, column), (side // 2, side // 2), (side - 1, 0)]:
                    told = (row, column)
                    self.assertEqual(next_cell(late, depth, 1, *other), told if other <= told else None)
                    self.assertEqual(last_ahead(late, depth, 1, *other), told if told < other else None)
                self.assertIsNone(next_cell(late, depth - 1, 1, 0, 0))
                self.assertIsNone(last_ahead(late, depth - 1, 1, side // base - 1, side // base - 1))

    def test_both_ways_at_greater_depths(self):
        random = Random(2)
        for picture in some_pictures(403, 16):
            base, depth = picture[0][0], {2: 8, 3: 5, 4: 4}[picture[0][0]]
            side = base ** depth
            for _ in range(6):
                place = (random.randrange(side), random.randrange(side))
                shade = random.choice(picture[0][1])
                for last in (False, True):
                    if last or picture[0][1][letter_at(picture, depth, *place)] != shade:
                        told = nearest_cell(picture, depth, shade, place, last)
                        self.assertEqual(nearest_row_by_row(picture, depth, shade, place, last), told)
                self.assertEqual(frame_of(picture, depth, shade), frame_line_by_line(picture, depth, shade))


if __name__ == "__main__":
    unittest.main()
