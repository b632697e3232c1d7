import unittest
from random import Random

from everydepth.desk import Desk
from everydepth.errors import (
    InvalidAddress, InvalidCommand, InvalidLetter, InvalidPlace, InvalidRectangle, NoPart, Nothing, NotReady, Unlike,
)
from everydepth.livesheet import Sheet
from everydepth.texts import show_address, show_counts, show_picture, show_story
from tests.helper import PromiseCase
from tests.model import CARPET, STAIRS, made_picture, ring

GREY = "sheet 2 2; 0 1; 0 1 / 1 0; 1 0 / 0 1; 0"
NO_LINES = [
    None, 0, True, b"undo", [], (), {}, object(), ["undo"], ("counts", [["0"]]), "", " ", "\n", "Undo", "undo ", " undo",
    "undo\n", "undo undo", "begin 1", "keep  ", "drop-", "counts ", "counts 0", "counts 0 0 2", "counts 0 0 2 4 5",
    "counts 0 0 2 -4", "counts 0 0 2 +4", "counts 0 0 2 04", "counts  0 0 2 4", "counts 0 0 2 4\n", "counts 0\t0 2 4",
    "counts 0 0 2 1" + "0" * 120, "cell 0", "cell 0 0 0", "cell 0 -1", "cell 0 00", "cell 0 x", "cell 1" + "0" * 120 + " 0",
    "paint", "paint 00", "paint 00 1 1", "paint 00  1", "paint 0 1", "paint 40 1", "paint 00. 1", "paint () 1", "paint 00 -1",
    "paint 00 01", "paint 00 1\n", "paint - 1" + "0" * 120, "copy 00", "copy 00 0", "copy 00 1 1", "copy 00 11\n", "swap - ",
    "swap 00,00 -", "blocks 1", "blocks\t", "story -", "stories", "sheet", "sheet 2", "sheet 2 ", "sheet 2 2",
    GREY[:-1], GREY + " ", GREY + "0", GREY.replace("sheet 2", "sheet 02"), GREY.replace("sheet 2", "sheet -2"),
    GREY.replace("sheet 2", "sheet  2"), GREY.replace("sheet 2 2", "sheet 2"), GREY.replace("1 / 1", "1/1"), GREY + "\n",
    "sheet 1" + "0" * 120 + GREY[7:], "sheet two" + GREY[7:],
]


class DeskTest(PromiseCase):
    def test_example(self):
        desk = Desk()
        lines = [GREY, "counts", "paint 00 1", "cell 0 0", "blocks", "undo", "counts 0 0 2 4"]
        self.assertEqual([desk.execute(line) for line in lines],
                         ['ok', '8 8 0 0', '4', '1', '00 1; 01 1; 10 1; 11 0', 'paint', '4 4 0 0'])

    def test_beside_a_sheet(self):
        random = Random(1)
        done = set()
        for number in range(60):
            base = 2 + number % 3
            picture = made_picture(random, base, random.randrange(1, 5))
            depth = random.choice([0, 1, 2, 3, 40])
            desk, live = Desk(), Sheet(picture, depth)
            self.assertEqual(desk.execute(f"sheet {depth} {show_picture(picture)}"), "ok")
            for _ in range(14):
                line, function, told, answer = self.drawn_line(random, live, base, depth)
                done.add(line.split(" ")[0])
                try:
                    wanted = answer(function(*told))
                except (Nothing, NoPart, Unlike) as error:
                    self.refused(error.__class__, error.value, desk.execute, line)
                    done.add(error.__class__.__name__)
                else:
                    self.assertEqual(desk.execute(line), wanted)
                self.assertEqual(desk.execute("story"), show_story(live.story))
                self.assertEqual(desk.execute("counts"), show_counts(live.counts()))
        self.assertTrue({"paint", "copy", "swap", "undo", "begin", "keep", "drop", "cell", "counts", "blocks", "Nothing",
                         "NoPart", "Unlike"} <= done)

    def drawn_line(self, random, live, base, depth):
        """A line, the method of a Sheet that does the same, its arguments, and how its answer is told."""
        def address(length):
            return tuple((random.randrange(base), random.randrange(base)) for _ in range(length))
        length = random.randrange(min(depth, 4) + 1)
        one, other = address(length), address(random.choice([length, length, random.randrange(min(depth, 4) + 1)]))
        side = base ** depth
        word = random.choice(["paint", "paint", "copy", "swap", "undo", "begin", "keep", "drop", "cell", "counts", "blocks"])
        if word == "paint":
            letter = random.randrange(len(live.picture[0][1]))
            return f"paint {show_address(one)} {letter}", live.paint, (one, letter), str
        if word in ("copy", "swap"):
            function = live.copy_block if word == "copy" else live.swap_blocks
            return f"{word} {show_address(one)} {show_address(other)}", function, (one, other), str
        if word == "cell":
            row, column = random.randrange(side), random.randrange(side)
            return f"cell {row} {column}", live.shade_at, (row, column), str
        if word == "counts":
            top, below = sorted(random.randrange(side + 1) for _ in range(2))
            left, right = sorted(random.randrange(side + 1) for _ in range(2))
            rectangle = (top, left, below, right)
            return f"counts {top} {left} {below} {right}", live.counts_in, (rectangle,), show_counts
        if word == "blocks":
            def told_blocks(blocks):
                return "; ".join(f"{show_address(address)} {letter}" for address, letter in blocks)
            return "blocks", live.blocks, (), told_blocks
        return word, getattr(live, word), (), (str if word == "undo" else lambda _: "ok")

    def test_two_desks_and_new_sheets(self):
        one, other = Desk(), Desk()
        one.execute(GREY)
        self.refused(NotReady, None, other.execute, "counts")
        other.execute(f"sheet 1 {show_picture(CARPET)}")
        self.assertEqual([one.execute("paint - 0"), one.execute("paint 11 1"), one.execute("begin")], ["0", "4", "ok"])
        self.assertEqual([other.execute("story"), other.execute("counts"), other.execute("blocks")], ["-", "1 8 0 0", "- 0"])
        self.assertEqual(one.execute("story"), "paint - 0; paint 11 1")
        # A new sheet has no deeds and no parts of the one ahead.
        self.assertEqual(one.execute(f"sheet 3 {show_picture(STAIRS)}"), "ok")
        self.refused(Nothing, None, one.execute, "undo")
        self.refused(NoPart, None, one.execute, "keep")
        self.assertEqual([one.execute("story"), one.execute("counts")], ["-", "37 27 0 0"])

    def test_great_sheets(self):
        desk = Desk()
        desk.execute(f"sheet 40 {show_picture(ring(4, [0, 1]))}")
        self.assertEqual(desk.execute("counts"), f"{16 ** 40} 0 0 0")
        self.assertEqual(desk.execute("paint 33.21 1"), str(16 ** 38))
        self.assertEqual(desk.execute(f"cell {4 ** 40 - 1} {4 ** 40 - 1}"), "0")
        self.assertEqual(desk.execute(f"counts 0 0 {4 ** 40} {4 ** 40}"), f"{16 ** 40 - 16 ** 38} {16 ** 38} 0 0")
        cell = ".".join(["12"] * 40)
        self.assertEqual([desk.execute(f"paint {cell} 1"), desk.execute("undo"), desk.execute("story")],
                         ["1", "paint", "paint 33.21 1"])

    def test_parts(self):
        desk = Desk()
        lines = [GREY, "begin", "paint 00 0", "begin", "paint - 1", "keep", "drop", "story", "counts"]
        self.assertEqual([desk.execute(line) for line in lines],
                         ["ok", "ok", "0", "ok", "16", "ok", "ok", "-", "8 8 0 0"])
        self.assertEqual(desk.execute(line="swap 00 01"), "8")


class WrongLinesTest(PromiseCase):
    def test_no_commands(self):
        empty, desk = Desk(), Desk()
        desk.execute(GREY)
        desk.execute("paint 00 1")
        for line in NO_LINES:
            self.refused(InvalidCommand, line, empty.execute, line)
            self.refused(InvalidCommand, line, desk.execute, line)
        self.assertEqual([desk.execute("story"), desk.execute("counts")], ["paint 00 1", "8 8 0 0"])
        self.refused(NotReady, None, empty.execute, "counts")

    def test_without_a_sheet(self):
        desk = Desk()
        for line in ["paint - 0", "paint 33.33 63", "copy - 00", "swap - -", "undo", "begin", "keep", "drop", "cell 9 9",
                     "counts", "counts 9 0 1 1", "blocks", "story"]:
            self.refused(NotReady, None, desk.execute, line)
        self.assertEqual(desk.execute(GREY), "ok")

    def test_what_is_done_is_refused(self):
        desk = Desk()
        desk.execute(GREY)
        desk.execute("paint 01 0")
        desk.execute("begin")
        for error, value, line in [
                (InvalidAddress, ((0, 2),), "paint 02 9"), (InvalidAddress, ((0, 0),) * 3, "paint 00.00.00 0"),
                (InvalidLetter, 2, "paint 00 2"), (InvalidAddress, ((3, 3),), "copy 33 22"),
                (InvalidAddress, ((2, 2),), "swap 00 22"), (Unlike, 2, "copy 00 00.11"), (Unlike, 0, "swap 00 -"),
                (InvalidPlace, (4, 0), "cell 4 0"), (InvalidPlace, (0, 10 ** 119), "cell 0 1" + "0" * 119),
                (InvalidRectangle, (2, 0, 1, 1), "counts 2 0 1 1"), (InvalidRectangle, (0, 0, 5, 4), "counts 0 0 5 4"),
                (Nothing, None, "undo")]:
            self.refused(error, value, desk.execute, line)
            self.assertEqual([desk.execute("story"), desk.execute("blocks")], ["paint 01 0", "00 0; 01 0; 10 1; 11 0"])
        desk.execute("drop")
        for line in ("keep", "drop"):
            self.refused(NoPart, None, desk.execute, line)


if __name__ == "__main__":
    unittest.main()
