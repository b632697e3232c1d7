import unittest
from random import Random

from everydepth.alike import parting
from everydepth.cells import letter_at, shade_at
from everydepth.endless import (
    endless_counts, endless_first, endless_parting, endless_shade, grows, squared, squared_parting,
)
from everydepth.errors import (
    InvalidMove, InvalidNumber, InvalidPicture, InvalidRectangle, InvalidShade, NotEndless, Unlike,
)
from everydepth.pictures import is_picture
from everydepth.rectangles import in_rectangle
from tests.helper import PromiseCase
from tests.model import (
    CARPET, NO_PICTURES, OTHER, STAIRS, chain, falling_picture, letter_sheet, made_picture, renamed, ring, shade_sheet,
    sparse_picture,
)
from tests.model_numbers import NO_SHADES
from tests.model_places import NO_MOVES

GREY = ((2, (0, 1), (((0, 1), (1, 0)), ((1, 0), (0, 1)))), 0)
DEPTHS = {2: 5, 3: 3, 4: 3}
FAR = 10 ** 119


def growing(picture):
    """The picture with its letter at the first place of its block."""
    (base, shades, blocks), letter = picture
    rows = [list(row) for row in blocks[letter]]
    rows[0][0] = letter
    block = tuple(tuple(row) for row in rows)
    return ((base, shades, blocks[:letter] + (block,) + blocks[letter + 1:]), letter)


def growing_pictures(seed, many):
    random = Random(seed)
    found = []
    for number in range(many):
        made = [made_picture, sparse_picture, falling_picture][number % 3]
        found.append(growing(made(random, 2 + number % 3, random.randrange(1, 6 if number % 2 else 9))))
    return found


def plain_shade(picture, row, column):
    """The shade of a place in the least sheet that has it."""
    depth = 0
    while picture[0][0] ** depth <= max(row, column):
        depth += 1
    return shade_at(picture, depth, row, column)


def plain_parting(one, other, move, depths):
    for depth in range(depths):
        for row, shades in enumerate(shade_sheet(one, depth)):
            for column, shade in enumerate(shades):
                if shade != plain_shade(other, row + move[0], column + move[1]):
                    return (row, column)
    return None


def growing_chain(base, length, place):
    """A picture that grows, whose endless sheet has one cell of shade 1, in the last block of the sheet of this depth."""
    (_, shades, blocks), _ = chain(base, length, place)
    many = len(shades)
    rows = [[many + 1] * base for _ in range(base)]
    rows[0][0], rows[base - 1][base - 1] = many, 0
    start = tuple(tuple(row) for row in rows)
    blank = ((many + 1,) * base,) * base
    return ((base, shades + (0, 0), blocks + (start, blank)), many)


class EndlessTest(PromiseCase):
    def test_examples(self):
        self.assertEqual(
            [grows(CARPET), endless_shade(CARPET, 10 ** 50, 0), endless_shade(CARPET, 4, 4),
             endless_counts(CARPET, (3, 3, 6, 7)), endless_first(CARPET, 0), endless_parting(CARPET, CARPET, (0, 0)),
             endless_parting(CARPET, CARPET, (0, 1))],
            [True, 1, 0, (9, 3, 0, 0), (1, 1), None, (1, 0)])
        self.assertEqual(squared(GREY)[0][2][0], ((0, 1, 1, 0), (1, 0, 0, 1), (1, 0, 0, 1), (0, 1, 1, 0)))

    def test_grows(self):
        self.assertIs(grows(STAIRS), True)
        self.assertIs(grows((STAIRS[0], 1)), True)
        self.assertIs(grows(ring(2, [0, 1])), False)
        self.assertIs(grows(chain(2, 3, (0, 0))), False)

    def test_shades_and_rectangles(self):
        random = Random(1)
        for picture in growing_pictures(221, 45):
            depth = DEPTHS[picture[0][0]]
            rows = shade_sheet(picture, depth)
            side = len(rows)
            for _ in range(20):
                row, column = random.randrange(side), random.randrange(side)
                self.assertEqual(endless_shade(picture, row, column), rows[row][column])
            for _ in range(8):
                top, below = sorted(random.randrange(side + 1) for _ in range(2))
                left, right = sorted(random.randrange(side + 1) for _ in range(2))
                cells = [shade for line in rows[top:below] for shade in line[left:right]]
                wanted = tuple(cells.count(shade) for shade in range(4))
                self.assertEqual(endless_counts(picture, (top, left, below, right)), wanted)
            self.assertEqual(endless_counts(picture, (0, 0, 0, 0)), (0, 0, 0, 0))
            self.assertEqual(endless_counts(picture, (7, 0, 7, FAR)), (0, 0, 0, 0))

    def test_far_places(self):
        random = Random(2)
        for picture in growing_pictures(222, 12):
            base = picture[0][0]
            row, column = random.randrange(FAR), random.randrange(FAR)
            shade = endless_shade(picture, row, column)
            self.assertEqual(endless_counts(picture, (row, column, row + 1, column + 1)).index(1), shade)
            # One more figure 0 ahead changes nothing.
            depth = 0
            while base ** depth <= max(row, column):
                depth += 1
            self.assertEqual([shade_at(picture, depth + more, row, column) for more in (0, 1, 7)], [shade] * 3)
            parts = [(0, 0, row, column), (0, column, row, 2 * column), (row, 0, FAR, column), (row, column, FAR, 2 * column)]
            told = [endless_counts(picture, part) for part in parts]
            self.assertEqual(tuple(map(sum, zip(*told))), endless_counts(picture, (0, 0, FAR, 2 * column)))
            side = base ** 60
            self.assertEqual(endless_counts(picture, (5, 7, side, side // 2)), in_rectangle(picture, 60, (5, 7, side, side // 2)))

    def test_first_places(self):
        found = set()
        for picture in growing_pictures(223, 60):
            for shade in range(4):
                wanted = None
                for depth in range(DEPTHS[picture[0][0]] + 1):
                    places = [(r, c) for r, row in enumerate(shade_sheet(picture, depth)) for c, own in enumerate(row)
                              if own == shade]
                    if places and wanted is None:
                        wanted = places[0]
                        found.add(depth)
                told = endless_first(picture, shade)
                if wanted is None and told is not None:
                    self.assertGreaterEqual(max(told), picture[0][0] ** DEPTHS[picture[0][0]])
                    self.assertEqual(endless_shade(picture, *told), shade)
                else:
                    self.assertEqual(told, wanted)
        self.assertTrue({0, 1, 2} <= found)
        # In growing order a far place of a sheet is ahead of the nearer ones of the next sheet.
        corner = ((2, (0, 1, 2), (((0, 1), (2, 0)), ((1, 1), (1, 1)), ((0, 0), (0, 0)))), 0)
        self.assertEqual([endless_first(corner, shade) for shade in range(4)], [(0, 0), (0, 1), (1, 0), None])
        late = growing_chain(2, 40, (1, 0))
        self.assertEqual(endless_first(late, 1), (2 ** 40 - 1, 2 ** 39))


class EndlessPartingTest(PromiseCase):
    def test_place_by_place(self):
        random = Random(3)
        found = {"soon": 0, "none": 0, "late": 0}
        pictures = growing_pictures(224, 60)
        for one in pictures:
            base = one[0][0]
            others = [random.choice([picture for picture in pictures if picture[0][0] == base]), renamed(one), one]
            other = random.choice(others)
            if random.randrange(6) == 0:
                other = one = ((base, (2,) * len(one[0][1]), one[0][2]), one[1])
            moves = [(0, 0), (0, 1), (1, 0), (random.randrange(3), random.randrange(3)),
                     (random.randrange(70), random.randrange(70)), (random.randrange(10 ** 6), random.randrange(10 ** 4)),
                     (random.randrange(FAR), random.randrange(FAR))]
            for move in moves:
                wanted = plain_parting(one, other, move, DEPTHS[base])
                told = endless_parting(one, other, move)
                if wanted or told is None:
                    self.assertEqual(told, wanted)
                    found["soon" if wanted else "none"] += 1
                else:
                    self.assertGreaterEqual(max(told), base ** (DEPTHS[base] - 1))
                    self.assertNotEqual(plain_shade(one, *told), plain_shade(other, told[0] + move[0], told[1] + move[1]))
                    found["late"] += 1
            told = parting(one, other)
            self.assertEqual(endless_parting(one, other, (0, 0)), told and told[1:])
        self.assertTrue(min(found.values()) > 0, found)

    def test_patterns_that_come_again(self):
        # Stripes of one row each, a board, and a board of blocks of 2 by 2.
        stripes = ((2, (0, 1), (((0, 0), (1, 1)), ((0, 0), (1, 1)))), 0)
        board = ((2, (0, 1), (((0, 1), (1, 0)), ((0, 1), (1, 0)))), 0)
        for move in [(2, 1), (0, 5), (10 ** 100, 3), (6, FAR)]:
            self.assertIsNone(endless_parting(stripes, stripes, move))
        for move in [(2, 4), (1, 1), (FAR + 1, 1), (10 ** 50, 10 ** 60)]:
            self.assertIsNone(endless_parting(board, board, move))
        for move in [(1, 0), (FAR, 1), (10 ** 50 + 1, 0)]:
            self.assertEqual(endless_parting(board, board, move), (0, 0))
            self.assertEqual(endless_parting(stripes, stripes, move), (0, 0) if move[0] % 2 else None)

    def test_far_moves_that_part_late(self):
        late, blank = growing_chain(2, 40, (1, 0)), ring(2, [0])
        first = (2 ** 40 - 1, 2 ** 39)
        self.assertEqual(endless_parting(late, blank, (0, 0)), first)
        self.assertEqual(endless_parting(late, blank, (FAR, 10 ** 80)), first)
        self.assertEqual(endless_parting(blank, late, (0, 0)), first)
        # The move brings the place of the other one nearer, to the first place and to the one ahead of it.
        self.assertEqual(endless_parting(blank, late, first), (0, 0))
        self.assertEqual(endless_parting(blank, late, (first[0] - 3, first[1] - 9)), (3, 9))
        self.assertEqual(endless_parting(blank, late, (first[0] - 3, 5)), (3, first[1] - 5))
        # Behind that one cell there is no other.
        self.assertIsNone(endless_parting(blank, late, (first[0] + 1, 0)))
        self.assertIsNone(endless_parting(blank, late, (0, first[1] + 1)))
        self.assertIsNone(endless_parting(blank, late, (FAR, FAR)))

    def test_carries_of_far_moves(self):
        random = Random(4)
        for picture in growing_pictures(225, 12):
            # Whatever the move, the first place shows the shade at the move itself, and the next ones those beside it.
            row, column = random.randrange(FAR), random.randrange(FAR)
            for shade in range(4):
                whole = growing(ring(picture[0][0], [shade]))
                told = endless_parting(whole, picture, (row, column))
                if told is not None:
                    self.assertNotEqual(endless_shade(picture, row + told[0], column + told[1]), shade)
                    depth = 0
                    while picture[0][0] ** depth <= max(told):
                        depth += 1
                    if depth > 0:
                        side = picture[0][0] ** (depth - 1)
                        inside = endless_counts(picture, (row, column, row + side, column + side))
                        self.assertEqual(inside[shade], side * side)
                    ahead = endless_counts(picture, (row, column, row + told[0], column + picture[0][0] ** depth))
                    self.assertEqual(sum(ahead) - ahead[shade], 0)


class SquaredTest(PromiseCase):
    def test_sheets_of_twice_the_depth(self):
        random = Random(5)
        for number in range(40):
            picture = [made_picture, sparse_picture, falling_picture][number % 3](random, 2, random.randrange(1, 9))
            told = squared(picture)
            self.assertIs(is_picture(told), True)
            self.assertEqual(told[0][:2], (4, picture[0][1]))
            self.assertEqual(told[1], picture[1])
            for letter in range(len(picture[0][1])):
                for depth in range(3):
                    self.assertEqual(letter_sheet((told[0], letter), depth), letter_sheet((picture[0], letter), 2 * depth))
            self.assertIsNone(squared_parting(picture, told))
            self.assertIsNone(squared_parting(picture, renamed(told)))
            row, column = random.randrange(4 ** 90), random.randrange(4 ** 90)
            self.assertEqual(letter_at(told, 90, row, column), letter_at(picture, 180, row, column))

    def test_where_they_part(self):
        random = Random(6)
        found = set()
        for number in range(60):
            picture = sparse_picture(random, 2, random.randrange(2, 6))
            other = squared(sparse_picture(random, 2, random.randrange(2, 6)))
            if number % 2:
                # One other letter in one block.
                (_, shades, blocks), letter = squared(picture)
                rows = [[list(row) for row in block] for block in blocks]
                rows[random.randrange(len(rows))][random.randrange(4)][random.randrange(4)] = random.randrange(len(rows))
                other = ((4, shades, tuple(tuple(tuple(row) for row in block) for block in rows)), letter)
            wanted = None
            for depth in range(4):
                cells = [(r, c) for r, (row, line) in enumerate(zip(shade_sheet(picture, 2 * depth), shade_sheet(other, depth)))
                         for c, (a, b) in enumerate(zip(row, line)) if a != b]
                if cells and wanted is None:
                    wanted = (depth, *cells[0])
            told = squared_parting(picture, other)
            self.assertTrue(told == wanted or wanted is None and told[0] > 3)
            found.add(told and told[0])
        self.assertTrue({None, 0, 1, 2} <= found)


class WrongArgumentsTest(PromiseCase):
    def test_pictures_that_do_not_grow(self):
        still = ring(2, [0, 1])
        self.pictures_refused(grows)
        for function, behind in [(endless_shade, (-1, -1)), (endless_counts, (None,)), (endless_first, (None,))]:
            self.pictures_refused(function, *behind)
            self.refused(NotEndless, still, function, still, *behind)
        for value in NO_PICTURES:
            self.refused_in_turn(value, still)
        self.refused(NotEndless, still, endless_parting, STAIRS, still, None)
        self.refused(NotEndless, still, endless_parting, CARPET, still, None)
        self.refused(Unlike, 2, endless_parting, CARPET, STAIRS, None)
        self.refused(Unlike, 3, endless_parting, STAIRS, CARPET, None)

    def refused_in_turn(self, value, still):
        self.refused(InvalidPicture, value, endless_parting, value, None, None)
        self.refused(NotEndless, still, endless_parting, still, value, None)
        self.refused(InvalidPicture, value, endless_parting, STAIRS, value, None)
        self.refused(InvalidPicture, value, endless_parting, CARPET, value, None)

    def test_numbers_shades_rectangles_and_moves(self):
        for row, column, wrong in [(-1, -2, -1), (0, -2, -2), (5, -FAR, -FAR), (-FAR, 0, -FAR)]:
            self.refused(InvalidNumber, wrong, endless_shade, STAIRS, row, column)
        for shade in NO_SHADES:
            self.refused(InvalidShade, shade, endless_first, STAIRS, shade)
        for value in [None, 0, (0, 0, 1), (0, 0, 1, 1, 1), [0, 0, 1, 1], (1, 0, 0, 1), (0, 1, 1, 0), (-1, 0, 1, 1),
                      (0, -1, 1, 1), (0, 0, 1, True), (0, 0, "1", 1), ([0], (0,), 1, [[1]])]:
            self.refused(InvalidRectangle, value, endless_counts, STAIRS, value)
        for move in NO_MOVES + [(-1, 0), (0, -1), (-FAR, -FAR)]:
            self.refused(InvalidMove, move, endless_parting, STAIRS, OTHER, move)

    def test_bases(self):
        self.pictures_refused(squared)
        for picture in (CARPET, squared(GREY)):
            self.refused(InvalidNumber, picture[0][0], squared, picture)
            self.refused(InvalidNumber, picture[0][0], squared_parting, picture, None)
        for picture in (STAIRS, CARPET):
            self.refused(InvalidNumber, picture[0][0], squared_parting, STAIRS, picture)
        self.pictures_refused(squared_parting, None)
        self.pictures_refused(lambda value: squared_parting(GREY, value))


if __name__ == "__main__":
    unittest.main()
