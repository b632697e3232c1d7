import unittest
from random import Random

from everydepth.endless import endless_counts
from everydepth.errors import (
    InvalidAddress, InvalidCounts, InvalidDepth, InvalidStory, Unreadable,
)
from everydepth.livesheet import Sheet
from everydepth.reading import read_address, read_counts, read_picture, read_story
from everydepth.texts import show_address, show_counts, show_picture, show_sheet, show_story
from everydepth.together import put
from tests.helper import PromiseCase
from tests.model import CARPET, PARITY, STAIRS, made_picture, made_pictures, ring, shade_sheet

GREY = ((2, (0, 1), (((0, 1), (1, 0)), ((1, 0), (0, 1)))), 0)
NO_ADDRESSES = [
    None, 0, True, "", "00", [], {}, set(), object(), [(0, 0)], (0,), (0, 0), ((0,),), ((0, 0, 0),), ((0, None),),
    ((0, 4),), ((-1, 0),), ((True, 0),), ((0, False),), (("0", "0"),), ([0, 0],), ((0, 0), [1, [1]]), ((0, 0), ()),
]
NO_COUNTS = [
    None, 0, True, "0 0 0 0", [], (), [0, 0, 0, 0], (0, 0, 0), (0, 0, 0, 0, 0), (0, 0, 0, -1), (0, True, 0, 0),
    (0, 0, None, 0), ("0", 0, 0, 0), (0, [0], 0, [[1]]), ((0, 0), 0, 0, 0), {}, object(),
]
NO_STORIES = [
    None, 0, True, "-", "", [], {}, object(), [("paint", (), 0)], ("paint", (), 0), (("paint", ()),),
    (("paint", (), 0, 0),), (("paint", (), 64),), (("paint", (), -1),), (("paint", (), True),), (("paint", (), ()),),
    (("paint", None, 0),), (("paint", ((0, 4),), 0),), (("copy", (), 0),), (("copy", 0, ()),), (("copy", (), ((4, 0),)),),
    (("swap", ((0, 0),) * 91, ()),), (("copy", (), ((0, 0),) * 91),), (("paint", ((3, 3),) * 91, 0),),
    (("undo", (), ()),), (("Paint", (), 0),), ((b"paint", (), 0),), ((["paint"], (), 0),), ((None, (), 0),),
    (["paint", (), 0],), (("paint", (), 0), ["copy", [()], ()]), (("paint", [(0, 0)], 0),), (("paint", (), [0]),), ((),),
]
PICTURE = "2; 0 1; 0 1 / 1 0; 1 0 / 0 1; 0"
NO_TEXTS = [None, 0, True, b"-", b"0 0 0 0", [], (), {}, object(), ["-"], ("-", [["-"]]), [[PICTURE]], 10 ** 130]


def figures(number):
    return "1" + "0" * (number - 1)


class ShownTest(PromiseCase):
    def test_examples(self):
        self.assertEqual(
            [show_picture(GREY), show_address(((1, 0), (0, 1))), show_sheet(GREY, 1)],
            ['2; 0 1; 0 1 / 1 0; 1 0 / 0 1; 0', '10.01', '01\n10\n'])

    def test_pictures(self):
        self.assertEqual(show_picture(ring(2, [3])), "2; 3; 0 0 / 0 0; 0")
        self.assertEqual(show_picture((CARPET[0], 1)), "3; 1 0; 0 0 0 / 0 1 0 / 0 0 0; 1 1 1 / 1 1 1 / 1 1 1; 1")
        text = show_picture(ring(4, [0] * 64, 63))
        self.assertTrue(text.startswith("4; 0 0 0 "))
        self.assertIn("; 63 63 63 63 / 63 63 63 63 / 63 63 63 63 / 63 63 63 63; 0 0 0 0 / ", text)
        self.assertTrue(text.endswith(" / 0 0 0 0; 63"))

    def test_sheets(self):
        for picture in made_pictures(1, 6):
            for depth in range(3):
                wanted = "".join("".join(map(str, row)) + "\n" for row in shade_sheet(picture, depth))
                self.assertEqual(show_sheet(picture, depth), wanted)
        self.assertEqual(show_sheet(STAIRS, 0), "1\n")
        self.assertEqual(show_sheet(CARPET, 4).count("\n"), 81)

    def test_addresses(self):
        self.assertEqual([show_address(()), show_address(((3, 2),))], ["-", "32"])
        self.assertEqual(show_address(((0, 3),) * 100), ".".join(["03"] * 100))

    def test_counts(self):
        self.assertEqual(show_counts((0, 10, 200, 3)), "0 10 200 3")
        for many in (119, 120, 121, 300, 900, 5000):
            wanted = figures(many)
            nines = "9" * many
            self.assertEqual(show_counts((10 ** (many - 1), 0, 10 ** many - 1, 7)), f"{wanted} 0 {nines} 7")
        told = endless_counts(CARPET, (0, 0, 10 ** 119, 10 ** 119))
        self.assertEqual(show_counts(told), " ".join(map(str, told)))

    def test_stories(self):
        self.assertEqual(show_story(()), "-")
        story = (("paint", ((1, 1), (0, 0)), 12), ("copy", (), ((3, 3),)), ("swap", ((0, 0),) * 2, ((1, 2),)), ("paint", (), 0))
        self.assertEqual(show_story(story), "paint 11.00 12; copy - 33; swap 00.00 12; paint - 0")
        self.assertEqual(show_story((("copy", ((0, 0),) * 90, ((3, 3),) * 90),)).count("."), 178)
        self.assertEqual(show_story((("paint", (), 63),) * 50).count("; "), 49)
        live = Sheet(CARPET, 3)
        live.paint(((1, 1),), 1)
        live.swap_blocks(((1, 1),), ((0, 2),))
        self.assertEqual(show_story(live.story), "paint 11 1; swap 11 02")

    def test_wrong_arguments(self):
        self.pictures_refused(show_picture)
        self.pictures_refused(show_sheet, -1)
        self.refused(InvalidDepth, -1, show_sheet, STAIRS, -1)
        for value in NO_ADDRESSES:
            self.refused(InvalidAddress, value, show_address, value)
        for value in NO_COUNTS:
            self.refused(InvalidCounts, value, show_counts, value)
        for value in NO_STORIES:
            self.refused(InvalidStory, value, show_story, value)


class ReadTest(PromiseCase):
    def read_again(self, show, read, value):
        text = show(value)
        self.assertEqual(read(text), value)
        self.assertEqual(show(read(text)), text)

    def test_what_is_shown_is_read_again(self):
        random = Random(1)
        wide = put(made_picture(Random(5), 2, 8), made_picture(Random(6), 2, 8), PARITY)
        for picture in made_pictures(2, 12) + [STAIRS, CARPET, GREY, wide, ring(4, [0] * 64, 63), ring(3, [1, 2, 3])]:
            self.read_again(show_picture, read_picture, picture)
        for length in [0, 1, 2, 89, 90, 91, 200]:
            address = tuple((random.randrange(4), random.randrange(4)) for _ in range(length))
            self.read_again(show_address, read_address, address)
        for value in [(0, 0, 0, 0), (1, 20, 300, 4000), (10 ** 120 - 1, 10 ** 119, 7, 0)]:
            self.read_again(show_counts, read_counts, value)
        for length in [0, 1, 2, 40, 100]:
            self.read_again(show_story, read_story, tuple(self.drawn_deed(random) for _ in range(length)))

    def drawn_deed(self, random):
        def address():
            return tuple((random.randrange(4), random.randrange(4)) for _ in range(random.choice([0, 1, 3, 90])))
        word = random.choice(["paint", "copy", "swap"])
        return (word, address(), random.randrange(64) if word == "paint" else address())

    def test_kinds_of_values(self):
        self.assertEqual(read_picture(PICTURE), GREY)
        self.assertEqual([read_address("-"), read_address("30"), read_story("-")], [(), ((3, 0),), ()])
        for value in (read_address("-"), read_counts("1 2 3 4"), read_story("-"), read_story("copy - -")[0]):
            self.assertIsInstance(value, tuple)

    def test_integers_of_many_figures(self):
        self.assertEqual(read_counts("0 0 1 " + figures(120)), (0, 0, 1, 10 ** 119))
        for text in ["0 0 1 " + figures(121), figures(121) + " 0 0 0", "0 " + "9" * 5000 + " 0 0"]:
            self.refused(Unreadable, text, read_counts, text)
        for text in ["paint - " + figures(121), "paint - " + figures(5000)]:
            self.refused(Unreadable, text, read_story, text)
        self.refused(Unreadable, PICTURE[:-1] + figures(5000), read_picture, PICTURE[:-1] + figures(5000))

    def changed(self, text):
        """Texts with one sign more, less or another one."""
        signs = " 0-+./;\n\ta4"
        for at in range(len(text) + 1):
            yield text[:at] + text[at + 1:]
            for sign in signs:
                yield text[:at] + sign + text[at:]
                yield text[:at] + sign + text[at + 1:]

    def test_one_sign_more_less_or_another_one(self):
        texts = [
            (show_picture, read_picture, ["2; 0 1; 0 1 / 1 0; 1 0 / 0 1; 0", "2; 3; 0 0 / 0 0; 0"]),
            (show_address, read_address, ["-", "30", "10.01"]),
            (show_counts, read_counts, ["0 0 0 0", "12 0 305 4"]),
            (show_story, read_story, ["-", "paint 11 1; copy - 03", "swap 00.12 -"]),
        ]
        refused = 0
        for show, read, some in texts:
            for text in some:
                for other in self.changed(text):
                    try:
                        self.assertEqual(show(read(other)), other)
                    except Unreadable as error:
                        self.assertEqual(error.value, other)
                        refused += 1
        self.assertGreater(refused, 1000)

    def test_texts_of_none(self):
        for text in NO_TEXTS + ["", " ", "--", "- ", " -", "\n", "-\n"]:
            for read in (read_picture, read_address, read_counts, read_story):
                self.refused(Unreadable, text, read, text)
        for text in ["2; 0 1; 0 1 / 1 0; 1 0 / 0 1", "2; 0 1; 0 1 / 1 0; 0", "2; 0 1; 0 1 / 1 0; 1 0 / 0 2; 0", "5; 0; 0; 0",
                     "2; 4; 0 0 / 0 0; 0", "2; 0; 0 0 / 0 0; 1", "2; 0; 0 0 / 0 0; -1", "2; 0; 0 0 / 0 0; 00",
                     "2; 0; 0 0 / 0 0; +0", "2;0; 0 0 / 0 0; 0", "2; 0; 0 0/0 0; 0", "2; 0; 0  0 / 0 0; 0", "3; 0; 0 0 / 0 0; 0",
                     "2; 0; 0 0 / 0 0; 0; ", "2; 0; 0 0 / 0 0 / 0 0; 0", "2; 0; 0 0 / 0 0; 0_0", "2; 01; 0 0 / 0 0; 0", "2; 0; 0"]:
            self.refused(Unreadable, text, read_picture, text)
        for text in ["0", "4", "40", "04", "000", "0.0", "00.", ".00", "00..00", "00 .00", "00,00", "00.-", "()"]:
            self.refused(Unreadable, text, read_address, text)
        for text in ["0 0 0", "0 0 0 0 0", "0  0 0 0", "0 0 0 -1", "0 0 0 +1", "0 0 0 01", "0 0 0 1.", "0 0 0 0\n", "0\t0 0 0"]:
            self.refused(Unreadable, text, read_counts, text)
        for text in ["paint - 64", "paint - -1", "paint - 01", "paint -", "paint - 0 0", "paint 0 0", "copy - 0", "copy -",
                     "swap 00 40", "undo", "paint - 0;copy - -", "paint - 0; ", "; paint - 0", "paint - 0; -", "-; -",
                     "Paint - 0", "paint  - 0", "copy - " + ".".join(["00"] * 91), "paint " + ".".join(["00"] * 91) + " 0"]:
            self.refused(Unreadable, text, read_story, text)


if __name__ == "__main__":
    unittest.main()
