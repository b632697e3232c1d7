import unittest
from random import Random

from everydepth.errors import InvalidDepth, InvalidNumber, InvalidShade, InvalidWord
from everydepth.fulllines import (
    first_depth_within, is_within, last_depth_within, lines_unlike, lines_within, longest_within, nth_within,
    number_within,
)
from everydepth.turns import turned
from tests.helper import PromiseCase
from tests.model import CARPET, STAIRS, chain, renamed, ring
from tests.model_numbers import NO_SHADE_TUPLES
from tests.model_places import DEPTHS, NO_WORDS, first_longest_run, full_lines, some_pictures

WORDS = ("row", "column")
SOME = [(0,), (1,), (0, 1), (1, 2), (0, 1, 2, 3), (3,)]


class FullLinesTest(PromiseCase):
    def test_examples(self):
        self.assertEqual(
            [lines_within(CARPET, 1, "row", (1,)), lines_within(CARPET, 80, "row", (1,)) == 2 ** 80,
             nth_within(CARPET, 2, "row", (1,), 3), number_within(CARPET, 2, "column", (1,), 6),
             is_within(CARPET, 2, "row", 4, (0, 1))],
            [2, True, 8, 2, True])
        self.assertEqual(
            [first_depth_within(CARPET, "row", (0,)), last_depth_within(CARPET, "row", (1,)),
             last_depth_within(CARPET, "row", (0,)), longest_within(CARPET, 2, "row", (1,))],
            [None, 'endless', None, (0, 1)])

    def test_lines_found_one_by_one(self):
        found = set()
        for picture in some_pictures(101, 40):
            for along in WORDS:
                for shades in SOME:
                    depths = []
                    for depth in range(DEPTHS[picture[0][0]]):
                        lines = full_lines(picture, depth, along, shades)
                        self.lines_told(picture, depth, along, shades, lines)
                        depths += [depth] if lines else []
                        found.add((depth, min(len(lines), 3)))
                    told = first_depth_within(picture, along, shades)
                    if depths:
                        self.assertEqual(told, depths[0])
                    else:
                        self.assertTrue(told is None or told >= DEPTHS[picture[0][0]])
        self.assertTrue({(3, 0), (3, 1), (3, 2), (3, 3), (0, 0), (0, 1)} <= found)

    def lines_told(self, picture, depth, along, shades, lines):
        side = picture[0][0] ** depth
        self.assertEqual(lines_within(picture, depth, along, shades), len(lines))
        self.assertEqual(longest_within(picture, depth, along, shades), first_longest_run(lines))
        for line in {0, side // 2, side - 1, max(0, side - 2)}:
            self.assertIs(is_within(picture, depth, along, line, shades), line in lines)
            ahead = [other for other in lines if other < line]
            self.assertEqual(number_within(picture, depth, along, shades, line), len(ahead))
        for number in {0, len(lines) // 2, max(0, len(lines) - 1)}:
            wanted = lines[number] if number < len(lines) else None
            self.assertEqual(nth_within(picture, depth, along, shades, number), wanted)
        for number in (len(lines), 10 ** 119):
            self.assertIsNone(nth_within(picture, depth, along, shades, number))

    def test_great_depths(self):
        random = Random(1)
        found = set()
        for picture in some_pictures(102, 40):
            side = picture[0][0] ** 90
            for along in WORDS:
                many = lines_within(picture, 90, along, (0,))
                for number in {0, many // 2, many - 1, random.randrange(many + 1)} - {-1, many}:
                    line = nth_within(picture, 90, along, (0,), number)
                    self.assertIs(is_within(picture, 90, along, line, (0,)), True)
                    self.assertEqual(number_within(picture, 90, along, (0,), line), number)
                self.assertIsNone(nth_within(picture, 90, along, (0,), many))
                line = random.randrange(side)
                self.assertEqual(is_within(picture, 90, along, line, (0,)), is_full(picture, 90, along, line, (0,)))
                run = longest_within(picture, 90, along, (0,))
                self.assertEqual(run is None, many == 0)
                if run:
                    first, length = run
                    last = first + length - 1
                    self.assertEqual(number_within(picture, 90, along, (0,), last),
                                     number_within(picture, 90, along, (0,), first) + length - 1)
                    self.assertIs(is_within(picture, 90, along, last, (0,)), True)
                    self.assertFalse(first and is_within(picture, 90, along, first - 1, (0,)))
                    self.assertFalse(last < side - 1 and is_within(picture, 90, along, last + 1, (0,)))
                found.add(min(many, 2))
        self.assertEqual(found, {0, 1, 2})

    def test_columns_are_rows_of_the_turned_picture(self):
        for picture in some_pictures(103, 16):
            # Mirrored and a quarter turned: what was the n-th column is the n-th row from the last on, then from the first.
            other = turned(turned(picture, 1), 4)
            for depth in (3, 20, 90):
                for shades in SOME[:3]:
                    self.assertEqual(lines_within(picture, depth, "column", shades),
                                     lines_within(other, depth, "row", shades))
                    self.assertEqual(longest_within(picture, depth, "column", shades),
                                     longest_within(other, depth, "row", shades))

    def test_runs_at_both_ends(self):
        whole = ring(3, [1])
        for depth in (0, 1, 90):
            side = 3 ** depth
            self.assertEqual(longest_within(whole, depth, "row", (1,)), (0, side))
            self.assertEqual(lines_within(whole, depth, "column", (0, 1)), side)
            self.assertEqual(nth_within(whole, depth, "row", (1,), side - 1), side - 1)
            self.assertEqual(number_within(whole, depth, "row", (1,), side - 1), side - 1)
            self.assertIsNone(longest_within(whole, depth, "row", (0, 2, 3)))
        # Rows 0 and 3 of each block are full, and the whole last row of blocks: runs that reach over a seam.
        full = ((1,) * 4,) * 4
        picture = ((4, (0, 1), (((1,) * 4, (0,) * 4, (0, 1, 0, 0), (1,) * 4), full)), 0)
        for depth in (1, 2, 3):
            lines = full_lines(picture, depth, "row", (1,))
            self.assertEqual(longest_within(picture, depth, "row", (1,)), first_longest_run(lines))
        # The last rows of one block and the first ones of the next one are the longest run.
        upper = ((0, 0), (1, 1))
        lower = ((1, 1), (0, 0))
        seam = ((2, (0, 1, 0, 0), (((2, 2), (3, 3)), ((1, 1), (1, 1)), upper, lower)), 0)
        self.assertEqual([longest_within(seam, depth, "row", (1,)) for depth in (1, 2)], [None, (1, 2)])
        # Of several runs of one length the first one is told.
        self.assertEqual(longest_within(CARPET, 90, "row", (1,)), (0, 1))

    def test_first_and_last_depths(self):
        found = set()
        for picture in some_pictures(104, 60):
            for along in WORDS:
                for shades in SOME[:4]:
                    depths = depths_within(picture, along, shades, 80)
                    self.assertEqual(first_depth_within(picture, along, shades), depths[0] if depths else None)
                    wanted = None if not depths else "endless" if depths[-1] > 60 else depths[-1]
                    self.assertEqual(last_depth_within(picture, along, shades), wanted)
                    found.add(wanted)
        self.assertTrue({None, "endless", 0, 1, 2} <= found)
        self.assertEqual(last_depth_within(chain(2, 8, (0, 1)), "column", (1,)), None)
        once = ((2, (0, 1, 2), (((1, 1), (0, 0)), ((2, 2), (2, 2)), ((2, 2), (2, 2)))), 0)
        self.assertEqual([first_depth_within(once, "row", (1,)), last_depth_within(once, "row", (1,))], [1, "endless"])
        single = ((2, (0, 1, 2), (((1, 1), (2, 2)), ((2, 2), (2, 2)), ((2, 2), (2, 2)))), 0)
        self.assertEqual([first_depth_within(single, "row", (1,)), last_depth_within(single, "row", (1,))], [1, 1])

    def test_alternating_depths(self):
        picture = ring(2, [0, 1, 2])
        self.assertEqual([first_depth_within(picture, "row", (s,)) for s in range(4)], [0, 1, 2, None])
        self.assertEqual([last_depth_within(picture, "row", (s,)) for s in range(4)], ["endless"] * 3 + [None])
        self.assertEqual([lines_within(picture, depth, "row", (2,)) for depth in (88, 89, 90)], [0, 2 ** 89, 0])

    def test_lines_unlike(self):
        pictures = some_pictures(105, 40)
        found = set()
        for along, shades in [("row", (0,)), ("column", (0, 1))]:
            numbers = [[lines_within(picture, depth, along, shades) for depth in range(20)] for picture in pictures]
            for at, one in enumerate(pictures):
                for to in range(at, min(at + 12, len(pictures))):
                    other = pictures[to]
                    if other[0][0] == one[0][0]:
                        depths = [n for n in range(20) if numbers[at][n] != numbers[to][n]]
                        told = lines_unlike(one, other, along, shades)
                        self.assertEqual(told, depths[0] if depths else None)
                        found.add(told)
                self.assertIsNone(lines_unlike(one, renamed(one), along, shades))
                self.assertIsNone(lines_unlike(one, turned(one, 2), along, shades))
        self.assertTrue({None, 0, 1, 2} <= found)
        self.assertEqual(lines_unlike(ring(2, [0] * 7 + [1]), ring(2, [0] * 6 + [1, 0]), "row", (1,)), 6)
        self.assertEqual(lines_unlike(ring(2, [1] * 7 + [0]), ring(2, [1] * 6 + [0]), "column", (1,)), 6)


def depths_within(picture, along, shades, many):
    """The depths, of so many, with a line within some shades, by the sets of letters that stand on lines."""
    _, of, blocks = picture[0]
    lines = blocks if along == "row" else [tuple(zip(*block)) for block in blocks]
    sets = {frozenset([picture[1]])}
    depths = []
    for depth in range(many):
        depths += [depth] if any(all(of[letter] in shades for letter in letters) for letters in sets) else []
        sets = {frozenset(inner for letter in letters for inner in lines[letter][figure])
                for letters in sets for figure in range(picture[0][0])}
    return depths


def is_full(picture, depth, along, line, shades):
    """Reads a line figure by figure, letter by letter."""
    base, of, blocks = picture[0]
    letters = {picture[1]}
    for at in reversed(range(depth)):
        figure = line // base ** at % base
        if along == "row":
            letters = {inner for letter in letters for inner in blocks[letter][figure]}
        else:
            letters = {row[figure] for letter in letters for row in blocks[letter]}
    return all(of[letter] in shades for letter in letters)


class WrongArgumentsTest(PromiseCase):
    def each_function(self):
        """Each function of one picture and a depth, with what stands between the word and the shades, and behind them."""
        return [(is_within, (-1,), ()), (lines_within, (), ()), (nth_within, (), (-1,)), (number_within, (), (-1,)),
                (longest_within, (), ())]

    def test_pictures_depths_and_words(self):
        for function, ahead, behind in self.each_function():
            self.pictures_refused(function, -1, None, *ahead, None, *behind)
            self.refused(InvalidDepth, -1, function, STAIRS, -1, None, *ahead, None, *behind)
            for word in NO_WORDS:
                self.refused(InvalidWord, word, function, STAIRS, 2, word, *ahead, None, *behind)
        for function in (first_depth_within, last_depth_within):
            self.pictures_refused(function, None, None)
            for word in NO_WORDS:
                self.refused(InvalidWord, word, function, STAIRS, word, None)
        self.pairs_refused(lines_unlike, None, None)
        for word in NO_WORDS:
            self.refused(InvalidWord, word, lines_unlike, STAIRS, STAIRS, word, None)

    def test_shades(self):
        for shades in NO_SHADE_TUPLES:
            self.refused(InvalidShade, shades, is_within, STAIRS, 2, "row", 3, shades)
            for function, ahead, behind in self.each_function()[1:]:
                self.refused(InvalidShade, shades, function, STAIRS, 2, "column", shades, *behind)
            for function in (first_depth_within, last_depth_within):
                self.refused(InvalidShade, shades, function, STAIRS, "row", shades)
            self.refused(InvalidShade, shades, lines_unlike, STAIRS, STAIRS, "row", shades)

    def test_lines_and_numbers(self):
        for line in (-1, 4, 10 ** 100):
            self.refused(InvalidNumber, line, is_within, STAIRS, 2, "row", line, None)
            self.refused(InvalidNumber, line, number_within, STAIRS, 2, "column", (1,), line)
        self.refused(InvalidNumber, 1, is_within, STAIRS, 0, "row", 1, (1,))
        self.refused(InvalidNumber, 3 ** 90, number_within, CARPET, 90, "row", (1,), 3 ** 90)
        for number in (-1, -10 ** 100):
            self.refused(InvalidNumber, number, nth_within, STAIRS, 2, "row", (1,), number)


if __name__ == "__main__":
    unittest.main()
