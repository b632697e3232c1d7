import unittest
from random import Random

from everydepth.cells import shade_at
from everydepth.errors import InvalidDepth, InvalidNumber, InvalidShade, InvalidWord
from everydepth.lines import border_counts_unlike, border_parting, line_cell, line_counts, longest_on, unlike_on
from everydepth.rectangles import in_rectangle
from everydepth.turns import turned
from tests.helper import PromiseCase
from tests.model import CARPET, OTHER, STAIRS, chain, renamed, ring
from tests.model_numbers import NO_SHADE_TUPLES, NO_SHADES
from tests.model_places import DEPTHS, NO_WORDS, first_longest_run, lines_of, some_pictures

WORDS = ("row", "column")
SOME = [(0,), (1,), (0, 1), (1, 2, 3), (0, 1, 2, 3), (3,)]


def first_unlike_at(one, other):
    return next((at for at, (a, b) in enumerate(zip(one, other)) if a != b), None)


def other_for(random, one, pictures):
    base = one[0][0]
    others = [random.choice([picture for picture in pictures if picture[0][0] == base]), renamed(one), one,
              (one[0], random.randrange(len(one[0][1])))]
    return random.choice(others)


class LinesTest(PromiseCase):
    def test_examples(self):
        self.assertEqual(
            [line_counts(CARPET, 1, "row", 1), line_cell(CARPET, 1, "column", 1, 1, 1),
             unlike_on(CARPET, CARPET, 1, "row", 0, 1), unlike_on(CARPET, CARPET, 40, "row", 0, 2),
             longest_on(CARPET, 2, "row", 1, (1,)), border_parting(CARPET, (CARPET[0], 1), "row", False)],
            [(1, 2, 0, 0), 2, 1, None, (2, 2), (0, 0)])

    def test_cells_one_by_one(self):
        random = Random(1)
        found = set()
        pictures = some_pictures(211, 40)
        for one in pictures:
            other = other_for(random, one, pictures)
            for along in WORDS:
                for depth in range(DEPTHS[one[0][0]]):
                    lines, others = lines_of(one, depth, along), lines_of(other, depth, along)
                    last = len(lines) - 1
                    for line in {0, last, random.randrange(last + 1), random.randrange(last + 1)}:
                        self.line_told(one, depth, along, line, lines[line])
                        other_line = random.choice([line, random.randrange(last + 1)])
                        wanted = first_unlike_at(lines[line], others[other_line])
                        self.assertEqual(unlike_on(one, other, depth, along, line, other_line), wanted)
                        found.add(wanted)
        self.assertTrue({None, 0, 1, 2, 3} <= found)

    def line_told(self, picture, depth, along, line, cells):
        self.assertEqual(line_counts(picture, depth, along, line), tuple(cells.count(shade) for shade in range(4)))
        for shade in range(4):
            places = [at for at, own in enumerate(cells) if own == shade]
            for number, place in enumerate(places):
                self.assertEqual(line_cell(picture, depth, along, line, shade, number), place)
            for number in (len(places), len(places) + 1, 10 ** 119):
                self.assertIsNone(line_cell(picture, depth, along, line, shade, number))
        for shades in SOME:
            places = [at for at, own in enumerate(cells) if own in shades]
            self.assertEqual(longest_on(picture, depth, along, line, shades), first_longest_run(places))

    def test_depths_of_90(self):
        random = Random(2)
        pictures = some_pictures(212, 16)
        for picture in pictures:
            side = picture[0][0] ** 90
            other = other_for(random, picture, pictures)
            for line in (0, side - 1, random.randrange(side)):
                counts = line_counts(picture, 90, "row", line)
                self.assertEqual(counts, in_rectangle(picture, 90, (line, 0, line + 1, side)))
                self.assertEqual(line_counts(picture, 90, "column", line), in_rectangle(picture, 90, (0, line, side, line + 1)))
                for shade in range(4):
                    for number in {0, counts[shade] // 2, counts[shade] - 1} if counts[shade] else ():
                        place = line_cell(picture, 90, "row", line, shade, number)
                        self.assertEqual(shade_at(picture, 90, line, place), shade)
                        self.assertEqual(in_rectangle(picture, 90, (line, 0, line + 1, place))[shade], number)
                    self.assertIsNone(line_cell(picture, 90, "row", line, shade, counts[shade]))
                self.run_told(picture, line, side)
                other_line = random.choice([line, random.randrange(side)])
                place = unlike_on(picture, other, 90, "column", line, other_line)
                if place is not None:
                    self.assertNotEqual(shade_at(picture, 90, place, line), shade_at(other, 90, place, other_line))
                    self.assertEqual(in_rectangle(picture, 90, (0, line, place, line + 1)),
                                     in_rectangle(other, 90, (0, other_line, place, other_line + 1)))

    def run_told(self, picture, line, side):
        for shades in SOME[:3]:
            told = longest_on(picture, 90, "column", line, shades)
            inside = sum(line_counts(picture, 90, "column", line)[shade] for shade in shades)
            if told is None:
                self.assertEqual(inside, 0)
                continue
            first, many = told
            run = in_rectangle(picture, 90, (first, line, first + many, line + 1))
            self.assertEqual(sum(run[shade] for shade in shades), many)
            for place in (first - 1, first + many):
                if 0 <= place < side:
                    self.assertNotIn(shade_at(picture, 90, place, line), shades)

    def test_depth_0_and_whole_lines(self):
        self.assertEqual(line_counts(STAIRS, 0, "row", 0), (0, 1, 0, 0))
        self.assertEqual([line_cell(STAIRS, 0, "row", 0, 1, 0), line_cell(STAIRS, 0, "row", 0, 1, 1)], [0, None])
        self.assertEqual([longest_on(STAIRS, 0, "column", 0, (1, 2)), longest_on(STAIRS, 0, "column", 0, (0,))], [(0, 1), None])
        self.assertEqual([unlike_on(STAIRS, OTHER, 0, "row", 0, 0), unlike_on(STAIRS, (STAIRS[0], 1), 0, "row", 0, 0)],
                         [None, 0])
        self.assertEqual(longest_on(ring(4, [1]), 90, "row", 4 ** 90 - 1, (0, 1)), (0, 4 ** 90))
        late = chain(2, 63, (1, 0))
        self.assertEqual(line_cell(late, 62, "column", 0, 1, 0), 2 ** 62 - 1)
        self.assertEqual(unlike_on(late, ring(2, [0]), 62, "row", 2 ** 62 - 1, 7), 0)
        self.assertIsNone(unlike_on(late, ring(2, [0]), 62, "row", 2 ** 62 - 2, 7))
        self.assertEqual(longest_on(late, 62, "column", 0, (0,)), (0, 2 ** 62 - 1))


class BordersTest(PromiseCase):
    def test_depth_by_depth(self):
        random = Random(3)
        found, numbers = set(), set()
        pictures = some_pictures(213, 50)
        for one in pictures:
            other = other_for(random, one, pictures)
            depths = {2: 6, 3: 4, 4: 4}[one[0][0]]
            for along in WORDS:
                for last in (False, True):
                    parted, unlike = None, {}
                    for depth in range(depths):
                        line, other_line = [lines_of(picture, depth, along)[-int(last)] for picture in (one, other)]
                        if parted is None and line != other_line:
                            parted = (depth, first_unlike_at(line, other_line))
                        for shade in range(4):
                            if line.count(shade) != other_line.count(shade):
                                unlike.setdefault(shade, depth)
                    told = border_parting(one, other, along, last)
                    self.assertTrue(told == parted or parted is None and told[0] >= depths)
                    found.add(parted)
                    for shade in range(4):
                        told = border_counts_unlike(one, other, along, last, shade)
                        wanted = unlike.get(shade)
                        self.assertTrue(told == wanted or wanted is None and told >= depths)
                        numbers.add(wanted)
        self.assertTrue({None, (0, 0), (1, 0), (1, 1)} <= found)
        self.assertTrue({None, 0, 1, 2} <= numbers)

    def test_unlike_late_alone(self):
        blank = ring(2, [0])
        for place, words in [((0, 0), [("row", False), ("column", False)]), ((0, 1), [("row", False), ("column", True)]),
                             ((1, 0), [("row", True), ("column", False)]), ((1, 1), [("row", True), ("column", True)])]:
            late = chain(2, 60, place)
            for along in WORDS:
                for last in (False, True):
                    on_line = (along, last) in words
                    at = 2 ** 59 - 1 if place[1 if along == "row" else 0] else 0
                    self.assertEqual(border_parting(late, blank, along, last), (59, at) if on_line else None)
                    self.assertEqual(border_counts_unlike(late, blank, along, last, 1), 59 if on_line else None)

    def test_other_places_and_the_same_numbers(self):
        one = ((2, (0, 1), (((0, 1), (0, 0)), ((1, 1), (1, 1)))), 0)
        other = turned(one, 4)
        self.assertEqual(border_parting(one, other, "row", False), (1, 0))
        for shade in range(4):
            self.assertIsNone(border_counts_unlike(one, other, "row", False, shade))
        # What the other truth values are told by is not checked.
        self.assertEqual(border_parting(one, other, "row", True), None)


class WrongArgumentsTest(PromiseCase):
    def test_pictures_depths_and_words(self):
        for function, behind in [(line_counts, ()), (line_cell, (None, -1)), (longest_on, (None,))]:
            self.pictures_refused(function, -1, None, -1, *behind)
            self.refused(InvalidDepth, -1, function, STAIRS, -1, None, -1, *behind)
            for word in NO_WORDS:
                self.refused(InvalidWord, word, function, STAIRS, 2, word, -1, *behind)
            for line in (-1, 4, 10 ** 100):
                self.refused(InvalidNumber, line, function, STAIRS, 2, "row", line, *behind)
            self.refused(InvalidNumber, 3 ** 90, function, CARPET, 90, "column", 3 ** 90, *behind)
        self.pairs_refused(unlike_on, -1, None, -1, -1)
        self.refused(InvalidDepth, -1, unlike_on, STAIRS, OTHER, -1, None, -1, -1)
        for word in NO_WORDS:
            self.refused(InvalidWord, word, unlike_on, STAIRS, OTHER, 2, word, -1, -2)

    def test_lines_of_two_sheets(self):
        self.refused(InvalidNumber, -1, unlike_on, STAIRS, OTHER, 2, "row", -1, -2)
        self.refused(InvalidNumber, 4, unlike_on, STAIRS, OTHER, 2, "row", 4, -2)
        self.refused(InvalidNumber, -2, unlike_on, STAIRS, OTHER, 2, "row", 3, -2)
        self.refused(InvalidNumber, 4, unlike_on, STAIRS, OTHER, 2, "column", 0, 4)
        self.refused(InvalidNumber, 1, unlike_on, STAIRS, OTHER, 0, "column", 0, 1)

    def test_shades_and_numbers(self):
        for shade in NO_SHADES:
            self.refused(InvalidShade, shade, line_cell, STAIRS, 2, "row", 3, shade, -1)
            self.refused(InvalidShade, shade, border_counts_unlike, STAIRS, OTHER, "row", True, shade)
        for shades in NO_SHADE_TUPLES:
            self.refused(InvalidShade, shades, longest_on, STAIRS, 2, "row", 3, shades)
        for number in (-1, -10 ** 100):
            self.refused(InvalidNumber, number, line_cell, STAIRS, 2, "row", 3, 1, number)

    def test_borders(self):
        self.pairs_refused(border_parting, None, True)
        self.pairs_refused(border_counts_unlike, None, False, None)
        for word in NO_WORDS:
            self.refused(InvalidWord, word, border_parting, STAIRS, OTHER, word, True)
            self.refused(InvalidWord, word, border_counts_unlike, STAIRS, OTHER, word, True, None)


if __name__ == "__main__":
    unittest.main()
