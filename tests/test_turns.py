import unittest

from everydepth.alike import alike
from everydepth.errors import InvalidNumber
from everydepth.pictures import is_picture
from everydepth.turns import onto, symmetries, turned
from tests.helper import PromiseCase
from tests.model import CARPET, OTHER, STAIRS, made_pairs, made_pictures, renamed, ring, shade_sheet
from tests.test_alike import wide_book


def turned_sheet(rows, turn):
    if turn >= 4:
        rows = [row[::-1] for row in rows]
    for _ in range(turn % 4):
        # What stood in the last row comes into the first column.
        rows = [[row[at] for row in rows[::-1]] for at in range(len(rows))]
    return rows


class TurnsTest(PromiseCase):
    def test_examples(self):
        self.assertEqual(
            [turned(STAIRS, 1)[0][2][0], symmetries(STAIRS), onto(STAIRS, turned(STAIRS, 1))],
            [((0, 0), (0, 1)), [0, 5], [1, 6]])

    def test_sheets_are_turned(self):
        for picture in made_pictures(51, 15):
            for turn in range(8):
                made = turned(picture, turn)
                self.assertIs(is_picture(made), True)
                self.assertEqual((made[0][0], made[0][1], made[1]), (picture[0][0], picture[0][1], picture[1]))
                for depth in range(3):
                    self.assertEqual(shade_sheet(made, depth), turned_sheet(shade_sheet(picture, depth), turn))
            self.assertEqual(turned(picture, 0), picture)

    def test_a_quarter_is_clockwise(self):
        picture = ((3, (0, 1, 2), (((0, 1, 2), (0, 0, 0), (0, 0, 0)),) + (((0,) * 3,) * 3,) * 2), 0)
        self.assertEqual(turned(picture, 1)[0][2][0], ((0, 0, 0), (0, 0, 1), (0, 0, 2)))
        self.assertEqual(turned(picture, 4)[0][2][0], ((2, 1, 0), (0, 0, 0), (0, 0, 0)))
        self.assertEqual(turned(picture, 5)[0][2][0], ((0, 0, 2), (0, 0, 1), (0, 0, 0)))
        self.assertEqual(turned(picture, 7)[0][2][0], ((0, 0, 0), (1, 0, 0), (2, 0, 0)))

    def test_letters_that_do_not_come_are_turned_too(self):
        self.assertEqual(turned((STAIRS[0], 1), 2), ((2, (1, 0), (((0, 0), (1, 0)), ((1, 1), (1, 1)))), 1))

    def test_onto(self):
        for one, other in made_pairs(52, 12) + [(p, turned(renamed(p), t)) for p in (STAIRS, CARPET) for t in range(8)]:
            found = [turn for turn in range(8) if alike(turned(one, turn), other)]
            self.assertEqual(onto(one, other), found)
            self.assertEqual(symmetries(one), onto(one, one))
            self.assertEqual(symmetries(one)[0], 0)
        self.assertEqual(symmetries(CARPET), list(range(8)))
        self.assertEqual(onto(STAIRS, OTHER), [1, 6])
        self.assertEqual(onto(OTHER, STAIRS), [3, 6])
        self.assertEqual(onto(STAIRS, (STAIRS[0], 1)), [])
        self.assertEqual(onto((CARPET[0], 1), (CARPET[0], 1)), list(range(8)))
        self.all_new(onto, STAIRS, OTHER)
        self.all_new(symmetries, STAIRS)

    def test_wide_pictures(self):
        wide = (wide_book(), 0)
        self.assertEqual(symmetries(wide), [0])
        self.assertEqual(onto(wide, turned(wide, 6)), [6])
        self.assertEqual(onto(ring(4, [0] * 61), ring(4, [0] * 64)), list(range(8)))

    def test_wrong_arguments(self):
        self.pictures_refused(turned, -1)
        self.pictures_refused(symmetries)
        self.pairs_refused(onto)
        for turn in (-1, 8, -8, 10 ** 100):
            self.refused(InvalidNumber, turn, turned, STAIRS, turn)


if __name__ == "__main__":
    unittest.main()
