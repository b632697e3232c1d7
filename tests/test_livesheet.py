import unittest
from random import Random

from everydepth.cells import letter_at, shade_at
from everydepth.counts import counts
from everydepth.errors import (
    InvalidAddress, InvalidDepth, InvalidLetter, InvalidPlace, InvalidRectangle, NoPart, Nothing, Unlike,
)
from everydepth.livesheet import Sheet
from everydepth.rectangles import in_rectangle
from tests.helper import PromiseCase
from tests.model import CARPET, OTHER, STAIRS, falling_picture, made_picture, renamed, ring, sparse_picture
from tests.model_live import NO_ADDRESSES, PlainSheet, same_blocks_book
from tests.model_places import NO_RECTANGLES

DEPTHS = {2: 5, 3: 4, 4: 3}
DEEDS = ["paint", "paint", "paint", "copy_block", "swap_blocks", "undo", "begin", "keep", "drop", "twin"]
NO_LETTERS = [None, True, False, -1, 2, 10 ** 100, "0", (0,), [0], [[0], (1, [2])], {}, object()]


def drawn_pictures(seed, many):
    random = Random(seed)
    for number in range(many):
        base = 2 + number % 3
        made = random.choice([made_picture, sparse_picture, falling_picture])
        picture = made(random, base, random.randrange(1, 6))
        if number % 3 == 0:
            picture = (same_blocks_book(random, base, 5), random.randrange(5))
        yield random, picture, random.randrange(DEPTHS[base])


def drawn_address(random, base, length):
    return tuple((random.randrange(base), random.randrange(base)) for _ in range(length))


class LiveSheetTest(PromiseCase):
    def test_example(self):
        live = Sheet(CARPET, 40)
        self.assertEqual(
            [live.paint(((1, 1), (0, 0)), 0) == 8 ** 38, live.blocks()[4], len(live.blocks()), live.undo(),
             live.blocks(), len(live)],
            [True, (((1, 1), (0, 0)), 0), 17, 'paint', [((), 0)], 0])

    def test_deeds_cell_by_cell(self):
        done = set()
        for random, picture, depth in drawn_pictures(1, 90):
            live, plain = Sheet(picture, depth), PlainSheet(picture, depth)
            twins = []
            for _ in range(14):
                self.one_deed(random, live, plain, twins, done)
                self.told_alike(random, live, plain)
                for twin, plain_twin in twins:
                    self.assertEqual(twin.story, tuple(plain_twin.story))
                    wanted = plain_twin.unlike(plain_twin.grid(), plain.grid())
                    self.assertEqual(twin.unlike_cells(live), wanted)
                    self.assertEqual(live.unlike_cells(twin), wanted)
                    self.assertIs(twin == live, plain_twin.grid() == plain.grid())
            for twin, plain_twin in twins:
                self.told_alike(random, twin, plain_twin)
                while plain_twin.story:
                    self.assertEqual(twin.undo(), plain_twin.undo())
                    self.told_alike(random, twin, plain_twin)
        self.assertTrue(set(DEEDS) <= done)
        self.assertTrue({"nothing", "no part", 0, 1, "many"} <= done)

    def one_deed(self, random, live, plain, twins, done):
        name = random.choice(DEEDS)
        length = random.randrange(plain.depth + 1)
        address, other = [drawn_address(random, plain.base, length) for _ in range(2)]
        done.add(name)
        if name == "paint":
            letter = random.randrange(len(plain.book[1]))
            changed = live.paint(address, letter)
            self.assertEqual(changed, plain.paint(address, letter))
            done.add(min(changed, 2) if changed < 2 else "many")
        elif name in ("copy_block", "swap_blocks"):
            self.assertEqual(getattr(live, name)(address, other), getattr(plain, name)(address, other))
        elif name == "undo":
            if plain.can_undo():
                self.assertEqual(live.undo(), plain.undo())
            else:
                self.refused(Nothing, None, live.undo)
                done.add("nothing")
        elif name == "twin":
            twins.append((live.twin(), plain.twin()))
        elif name == "begin" or plain.begins:
            self.assertIsNone(getattr(live, name)())
            getattr(plain, name)()
        else:
            self.refused(NoPart, None, getattr(live, name))
            done.add("no part")

    def told_alike(self, random, live, plain):
        """All that is told of a Sheet is what its grid of letters tells."""
        grid = plain.grid()
        side = len(grid)
        for _ in range(4):
            row, column = random.randrange(side), random.randrange(side)
            self.assertEqual(live.letter_at(row, column), grid[row][column])
            self.assertEqual(live.shade_at(row, column), plain.book[1][grid[row][column]])
        self.assertEqual(live.counts(), plain.counts_in((0, 0, side, side)))
        top, below = sorted(random.randrange(side + 1) for _ in range(2))
        left, right = sorted(random.randrange(side + 1) for _ in range(2))
        for rectangle in [(top, left, below, right), (0, left, side, right), (top, top, top, below), (0, 0, side, side)]:
            self.assertEqual(live.counts_in(rectangle), plain.counts_in(rectangle))
        self.assertEqual(live.blocks(), plain.blocks())
        self.assertEqual(live.story, tuple(plain.story))
        self.assertEqual([len(live), live.parts, live.depth], [len(plain.story), len(plain.begins), plain.depth])

    def test_sheets_made_by_other_ways_are_equal(self):
        for random, picture, depth in drawn_pictures(2, 40):
            live = Sheet(picture, depth)
            for _ in range(4):
                live.paint(drawn_address(random, picture[0][0], random.randrange(depth + 1)), picture[1])
                live.paint(drawn_address(random, picture[0][0], random.randrange(depth + 1)), 0)
            again = Sheet((picture[0], len(picture[0][1]) - 1), depth)
            for address, letter in live.blocks():
                again.paint(address, letter)
            self.assertIs(live == again, True)
            self.assertIs(live != again, False)
            self.assertEqual([again.unlike_cells(live), live.unlike_cells(again)], [0, 0])
            self.assertEqual(again.blocks(), live.blocks())

    def test_equal_to_nothing_else(self):
        live = Sheet(STAIRS, 3)
        for other in [None, 0, STAIRS, [], "live", object(), Sheet(STAIRS, 2), Sheet(OTHER, 3), Sheet((STAIRS[0], 1), 3),
                      Sheet(renamed(STAIRS), 3)]:
            self.assertIs(live == other, False)
            self.assertIs(live != other, True)
        self.assertIs(live == Sheet(STAIRS, 3), True)
        # Letters of one shade are other letters all the same; a letter that does not come is none of the cells.
        book = (2, (1, 1, 0), (((0, 0), (0, 0)), ((1, 1), (1, 1)), ((2, 2), (2, 2))))
        self.assertIs(Sheet((book, 0), 2) == Sheet((book, 1), 2), False)
        self.assertEqual(Sheet((book, 0), 2).unlike_cells(Sheet((book, 1), 2)), 0)

    def test_books_of_other_letters(self):
        for random, picture, depth in drawn_pictures(3, 60):
            base = picture[0][0]
            other = made_picture(random, base, random.randrange(1, 6))
            live, plain = Sheet(picture, depth), PlainSheet(picture, depth)
            live2, plain2 = Sheet(other, depth), PlainSheet(other, depth)
            for _ in range(3):
                address = drawn_address(random, base, random.randrange(depth + 1))
                for sheet in (live, plain, live2, plain2):
                    sheet.paint(address, 0)
            rows = zip(plain.shade_rows(), plain2.shade_rows())
            wanted = sum(a != b for row, line in rows for a, b in zip(row, line))
            self.assertEqual(live.unlike_cells(live2), wanted)
            self.assertEqual(live2.unlike_cells(live), wanted)

    def test_depth_0(self):
        live = Sheet(STAIRS, 0)
        self.assertEqual(live.blocks(), [((), 0)])
        self.assertEqual([live.paint((), 1), live.paint((), 1), live.copy_block((), ()), live.swap_blocks((), ())],
                         [1, 0, 0, 0])
        self.assertEqual(live.story, (("paint", (), 1), ("paint", (), 1), ("copy", (), ()), ("swap", (), ())))
        self.assertEqual([live.undo() for _ in range(4)], ["swap", "copy", "paint", "paint"])
        self.assertEqual([live.letter_at(0, 0), live.counts(), live.counts_in((0, 0, 1, 1)), live.counts_in((0, 1, 1, 1))],
                         [0, (0, 1, 0, 0), (0, 1, 0, 0), (0, 0, 0, 0)])
        self.refused(InvalidAddress, ((0, 0),), live.paint, ((0, 0),), 0)

    def test_depth_40(self):
        random = Random(4)
        for base in (2, 3, 4):
            picture = made_picture(random, base, 8)
            side = base ** 40
            live = Sheet(picture, 40)
            self.assertEqual(live.counts(), counts(picture, 40))
            cell = drawn_address(random, base, 40)
            row = sum(i * base ** (39 - at) for at, (i, _) in enumerate(cell))
            column = sum(j * base ** (39 - at) for at, (_, j) in enumerate(cell))
            ahead = letter_at(picture, 40, row, column)
            letter = next(a for a in range(8) if picture[0][1][a] != picture[0][1][ahead])
            self.assertEqual(live.paint(cell, letter), 1)
            self.assertEqual([live.letter_at(row, column), live.unlike_cells(Sheet(picture, 40))], [letter, 1])
            self.assertEqual(len(live.blocks()), 40 * (base * base - 1) + 1)
            self.assertEqual(sum(live.counts()), side * side)
            for rectangle in [(row, column, row + 1, column + 1), (0, 0, row, side), (0, column + 1, side, side)]:
                told = live.counts_in(rectangle)
                wanted = in_rectangle(picture, 40, rectangle)
                if rectangle[2] == row + 1:
                    wanted = tuple(int(shade == picture[0][1][letter]) for shade in range(4))
                self.assertEqual(told, wanted)
            self.assertEqual(live.copy_block((cell[0],), (cell[0],)), 0)
            # Copied block by block: the cell comes again in each copy.
            others = [(i, j) for i in range(base) for j in range(base) if (i, j) != cell[0]][:3]
            for other in others:
                live.copy_block((cell[0],), (other,))
            for i, j in others:
                place = (row % (side // base) + i * (side // base), column % (side // base) + j * (side // base))
                self.assertEqual(live.letter_at(*place), letter)
            while len(live) > 1:
                live.undo()
            self.assertEqual(live.undo(), "paint")
            self.assertIs(live == Sheet(picture, 40), True)
            self.assertEqual(live.blocks(), [((), picture[1])])

    def test_the_least_letter_and_letters_that_never_come(self):
        # Letters 1 and 2 have the same block, so the same sheets but at depth 0; letter 3 is the letter of no picture.
        book = (2, (0, 1, 2, 3), (((0, 0), (0, 0)), ((0, 0), (0, 1)), ((0, 0), (0, 1)), ((1, 2), (2, 1))))
        live = Sheet((book, 2), 3)
        self.assertEqual(live.blocks(), [((), 1)])
        live.paint(((1, 1), (1, 1), (1, 1)), 2)
        self.assertIn((((1, 1), (1, 1), (1, 1)), 2), live.blocks())
        live = Sheet((book, 0), 2)
        live.paint(((0, 0),), 1)
        live.paint(((0, 1),), 2)
        live.paint(((1, 0),), 2)
        self.assertEqual([entry[1] for entry in live.blocks()], [1, 1, 1, 0])
        live.paint(((1, 1),), 1)
        self.assertEqual(live.blocks(), [((), 3)])
        self.assertEqual(live.letter_at(3, 3), 1)

    def test_blocks_within_blocks(self):
        live = Sheet(ring(2, [0, 1]), 3)
        self.assertEqual(live.paint(((0, 0),), 1), 0)
        self.assertEqual(live.paint(((0, 0),), 0), 16)
        self.assertEqual(live.paint(((0, 0), (1, 1)), 0), 4)
        # The first block, with the one within it, is put into a part of the sheet beside it and exchanged.
        self.assertEqual(live.copy_block(((0, 0),), ((1, 1),)), 12)
        self.assertEqual(live.swap_blocks(((1, 1), (0, 0)), ((1, 1), (1, 1))), 8)
        self.assertEqual(live.swap_blocks(((1, 1),), ((1, 1),)), 0)
        self.assertEqual(live.counts(), (24, 40, 0, 0))
        self.assertEqual([live.undo() for _ in range(5)], ["swap", "swap", "copy", "paint", "paint"])
        self.assertEqual([live.counts(), len(live)], [(0, 64, 0, 0), 1])

    def test_parts_within_parts(self):
        live = Sheet(STAIRS, 2)
        live.paint((), 1)
        live.begin()
        self.refused(Nothing, None, live.undo)
        live.paint(((0, 0),), 0)
        live.begin()
        live.paint(((0, 1),), 0)
        live.keep()
        self.assertEqual([live.parts, len(live)], [1, 3])
        # What was kept within is taken back one by one.
        self.assertEqual(live.undo(), "paint")
        live.begin()
        live.swap_blocks(((0, 0),), ((1, 1),))
        live.keep()
        live.drop()
        self.assertEqual([live.parts, live.story, live.counts()], [0, (("paint", (), 1),), (16, 0, 0, 0)])
        self.refused(NoPart, None, live.drop)
        self.refused(NoPart, None, live.keep)
        live.begin()
        live.drop()
        live.begin()
        self.assertEqual([live.twin().parts, live.twin().undo()], [0, "paint"])
        self.refused(Nothing, None, live.undo)

    def test_properties_and_new_lists(self):
        live = Sheet(STAIRS, 2)
        live.paint(((1, 0),), 1)
        self.assertEqual([live.picture, live.depth, live.parts, live.story], [STAIRS, 2, 0, (("paint", ((1, 0),), 1),)])
        for name in ("picture", "depth", "parts", "story"):
            self.assertIsInstance(getattr(Sheet, name), property)
        self.assertIsNot(live.blocks(), live.blocks())
        live.blocks().clear()
        self.assertEqual(len(live.blocks()), 4)

    def test_arguments_by_name(self):
        live = Sheet(picture=STAIRS, depth=2)
        self.assertEqual(live.paint(address=((0, 0),), letter=1), 3)
        self.assertEqual(live.copy_block(address=((0, 0),), other=((1, 0),)), 3)
        self.assertEqual(live.swap_blocks(address=((0, 0),), other=((1, 1),)), 6)
        self.assertEqual([live.letter_at(row=0, column=1), live.shade_at(row=0, column=1)], [1, 0])
        self.assertEqual(live.counts_in(rectangle=(0, 0, 1, 2)), (1, 1, 0, 0))
        self.assertEqual(live.unlike_cells(other=live.twin()), 0)


class WrongArgumentsTest(PromiseCase):
    def test_pictures_and_depths(self):
        self.pictures_refused(Sheet, -1)
        self.refused(InvalidDepth, -1, Sheet, STAIRS, -1)

    def unchanged(self, error, value, function, *told):
        """The call of a method is refused and changes nothing of the Sheet."""
        live = function.__self__
        ahead = (live.story, live.parts, live.blocks(), live.counts())
        self.refused(error, value, function, *told)
        self.assertEqual((live.story, live.parts, live.blocks(), live.counts()), ahead)

    def test_addresses(self):
        live = Sheet(STAIRS, 2)
        live.paint(((0, 1),), 1)
        live.begin()
        for address in NO_ADDRESSES + [((0, 0),) * 3, ((0, 2),), ((2, 0), (0, 0))]:
            self.unchanged(InvalidAddress, address, live.paint, address, None)
            for function in (live.copy_block, live.swap_blocks):
                self.unchanged(InvalidAddress, address, function, address, None)
                self.unchanged(InvalidAddress, address, function, ((0, 0),), address)

    def test_letters_and_lengths(self):
        live = Sheet(STAIRS, 2)
        for letter in NO_LETTERS:
            self.unchanged(InvalidLetter, letter, live.paint, ((0, 1),), letter)
        for function in (live.copy_block, live.swap_blocks):
            self.unchanged(Unlike, 1, function, (), ((0, 0),))
            self.unchanged(Unlike, 0, function, ((0, 0), (1, 1)), ())
            self.unchanged(Unlike, 2, function, ((0, 0),), ((1, 1), (0, 0)))

    def test_places_and_rectangles(self):
        live = Sheet(STAIRS, 2)
        for row, column in [(-1, 0), (0, -1), (4, 0), (0, 4), (10 ** 119, 10 ** 119)]:
            self.unchanged(InvalidPlace, (row, column), live.letter_at, row, column)
            self.unchanged(InvalidPlace, (row, column), live.shade_at, row, column)
        for value in NO_RECTANGLES:
            self.unchanged(InvalidRectangle, value, live.counts_in, value)

    def test_other_sheets(self):
        live = Sheet(STAIRS, 2)
        self.unchanged(Unlike, 3, live.unlike_cells, Sheet(STAIRS, 3))
        self.unchanged(Unlike, 3, live.unlike_cells, Sheet(CARPET, 2))
        self.unchanged(Unlike, 3, live.unlike_cells, Sheet(CARPET, 4))
        self.assertEqual(live.unlike_cells(Sheet(OTHER, 2)), sum(
            shade_at(STAIRS, 2, row, column) != shade_at(OTHER, 2, row, column) for row in range(4) for column in range(4)))

    def test_nothing_and_no_part(self):
        live = Sheet(STAIRS, 2)
        self.unchanged(Nothing, None, live.undo)
        self.unchanged(NoPart, None, live.keep)
        self.unchanged(NoPart, None, live.drop)
        live.begin()
        self.unchanged(Nothing, None, live.undo)


if __name__ == "__main__":
    unittest.main()
