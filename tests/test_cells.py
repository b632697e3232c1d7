import unittest

from everydepth.cells import cut, letter_at, part, shade_at, sheet
from everydepth.errors import InvalidDepth, InvalidNumber, InvalidPlace
from tests.helper import PromiseCase
from tests.model import CARPET, STAIRS, chain, letter_sheet, made_pictures, ring, shade_sheet


class CellsTest(PromiseCase):
    def test_examples(self):
        self.assertEqual(sheet(STAIRS, 2), [[1, 0, 0, 0], [1, 1, 0, 0], [1, 0, 1, 0], [1, 1, 1, 1]])
        self.assertEqual(
            [shade_at(STAIRS, 90, 2 ** 90 - 1, 2 ** 89), cut(STAIRS, 2, 1, 1, 2, 3), part(STAIRS, 1, 0, 1)[1]],
            [1, [[1, 0, 0], [0, 1, 0]], 1])

    def test_all_cells_of_small_sheets(self):
        for picture in made_pictures(11, 12):
            for depth in range(4 if picture[0][0] == 2 else 3):
                letters = letter_sheet(picture, depth)
                shades = shade_sheet(picture, depth)
                self.assertEqual(sheet(picture, depth), shades)
                for row in range(len(letters)):
                    for column in range(len(letters)):
                        self.assertEqual(letter_at(picture, depth, row, column), letters[row][column])
                        self.assertEqual(shade_at(picture, depth, row, column), shades[row][column])
                        self.assertEqual(part(picture, depth, row, column), (picture[0], letters[row][column]))

    def test_a_part_unfolds_into_what_stands_there(self):
        for picture in made_pictures(12, 8):
            base = picture[0][0]
            rows = sheet(picture, 3)
            for row in range(base):
                for column in range(base):
                    side = base * base
                    found = sheet(part(picture, 1, row, column), 2)
                    block = [line[column * side:(column + 1) * side] for line in rows[row * side:(row + 1) * side]]
                    self.assertEqual(found, block)

    def test_greatest_sheets(self):
        self.assertEqual(sheet(CARPET, 4), shade_sheet(CARPET, 4))
        self.assertEqual(len(sheet(STAIRS, 6)), 64)
        self.assertEqual(sheet(STAIRS, 0), [[1]])

    def test_depth_90(self):
        # The cell of the chain stands in the row of figures 2 and the column of figures 3 alone.
        picture = chain(4, 64 - 1, (2, 3))
        row, column = int("2" * 62, 4), int("3" * 62, 4)
        self.assertEqual(shade_at(picture, 62, row, column), 1)
        self.assertEqual(letter_at(picture, 62, row, column), 62)
        self.assertEqual(letter_at(picture, 62, row, column - 1), 63)
        self.assertEqual(letter_at(picture, 90, 4 ** 90 - 1, 4 ** 90 - 1), 63)
        self.assertEqual(letter_at(ring(4, [0] * 64), 90, 5, 7), 90 % 64)
        first = [[0, 0, 0], [0, 1, 0], [0, 0, 0]]
        self.assertEqual(cut(picture, 62, row - 1, column - 1, 2, 2), [line[:2] for line in first[:2]])
        self.refused(InvalidNumber, 3, cut, picture, 62, row, column, 2, 3)

    def test_cuts(self):
        for picture in made_pictures(13, 6):
            depth = 3 if picture[0][0] == 2 else 2
            shades = shade_sheet(picture, depth)
            side = len(shades)
            for row in range(0, side, 3):
                for column in range(side):
                    for rows in range(1, min(side - row, 20) + 1, 2):
                        for columns in range(1, min(side - column, 20) + 1, 3):
                            wanted = [line[column:column + columns] for line in shades[row:row + rows]]
                            self.assertEqual(cut(picture, depth, row, column, rows, columns), wanted)

    def test_cuts_that_end_with_the_sheet(self):
        side = 2 ** 90
        self.assertEqual(cut(STAIRS, 90, side - 20, side - 20, 20, 20), [r[-20:] for r in sheet(STAIRS, 6)[-20:]])
        self.assertEqual(cut(STAIRS, 90, side - 1, side - 1, 1, 1), [[1]])
        self.assertEqual(cut(STAIRS, 0, 0, 0, 1, 1), [[1]])
        self.refused(InvalidNumber, 20, cut, STAIRS, 90, side - 19, side - 20, 20, 20)
        self.refused(InvalidNumber, 20, cut, STAIRS, 90, side - 20, side - 19, 20, 20)
        self.refused(InvalidNumber, 2, cut, STAIRS, 0, 0, 0, 2, 2)

    def test_lists_are_new(self):
        self.all_new(sheet, ring(2, [0, 1]), 3)
        self.all_new(cut, ring(2, [0, 1]), 3, 0, 0, 8, 8)

    def test_wrong_cells(self):
        for function in (letter_at, shade_at, part):
            self.pictures_refused(function, -1, -1, -1)
            self.refused(InvalidDepth, -1, function, STAIRS, -1, 0, 0)
            self.refused(InvalidDepth, -10 ** 50, function, STAIRS, -10 ** 50, -1, -1)
            for depth in (0, 1, 90):
                side = 2 ** depth
                for place in [(-1, 0), (0, -1), (side, 0), (0, side), (side, side), (-10 ** 100, 10 ** 100)]:
                    self.refused(InvalidPlace, place, function, STAIRS, depth, *place)
                self.assertIsNotNone(function(STAIRS, depth, side - 1, side - 1))

    def test_wrong_sheets(self):
        self.pictures_refused(sheet, -1)
        self.refused(InvalidDepth, -1, sheet, STAIRS, -1)

    def test_wrong_cuts(self):
        self.pictures_refused(cut, -1, -1, -1, 0, 0)
        self.refused(InvalidDepth, -2, cut, STAIRS, -2, -1, -1, 0, 0)
        for place in [(-1, 0), (0, -1), (4, 0), (0, 4)]:
            self.refused(InvalidPlace, place, cut, STAIRS, 2, *place, 0, 0)
        for count in (0, -1, 21, 10 ** 100):
            self.refused(InvalidNumber, count, cut, STAIRS, 90, 0, 0, count, -5)
            self.refused(InvalidNumber, count, cut, STAIRS, 90, 0, 0, 1, count)
        self.refused(InvalidNumber, 4, cut, STAIRS, 2, 1, 0, 4, 9)
        self.refused(InvalidNumber, 3, cut, STAIRS, 2, 1, 2, 3, 3)


if __name__ == "__main__":
    unittest.main()
