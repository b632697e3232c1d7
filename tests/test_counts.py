import unittest
from random import Random

from everydepth.counts import (
    count, counts, dependent, first_unlike_count, relations, rest, rule, same_counts, total,
)
from everydepth.errors import InvalidDepth, InvalidNumber, InvalidPicture, InvalidShade
from everydepth.pictures import coming
from everydepth.together import put
from everydepth.turns import turned
from tests.helper import PromiseCase
from tests.model import (
    BOTH, CARPET, LATE, NO_PICTURES, OTHER, PARITY, STAIRS, chain, made_picture, made_pictures, renamed, ring,
)
from tests.model_numbers import (
    NO_SHADES, counts_by_letters, plain_counts, plain_relations, plain_rule, rest_by_squares,
)

DEPTHS = {2: 6, 3: 4, 4: 3}


class CountsTest(PromiseCase):
    def test_examples(self):
        self.assertEqual(
            [counts(STAIRS, 3), total(STAIRS, 2, 1), rest(STAIRS, 10 ** 30, 1, 7), rule(STAIRS, 1), rule(STAIRS, 0),
             rule(STAIRS, 2)],
            [(37, 27, 0, 0), 13, 4, [(3, 1)], [(7, 1), (-12, 1)], []])
        self.assertEqual(
            relations(STAIRS), [((0, 1), (0, 1), (1, 1), (0, 1)), ((0, 1), (0, 1), (0, 1), (1, 1))])

    def test_cells_counted_one_by_one(self):
        for picture in made_pictures(61, 25):
            ahead = [0] * 4
            for depth in range(DEPTHS[picture[0][0]]):
                wanted = plain_counts(picture, depth)
                ahead = [a + b for a, b in zip(ahead, wanted)]
                self.assertEqual(counts(picture, depth), wanted)
                self.assertEqual([count(picture, depth, shade) for shade in range(4)], list(wanted))
                self.assertEqual([total(picture, depth, shade) for shade in range(4)], ahead)

    def test_great_depths(self):
        for picture in made_pictures(62, 12) + [chain(2, 30, (1, 0)), ring(3, [0, 1, 2] * 9)]:
            ahead = [0] * 4
            for depth, wanted in enumerate(counts_by_letters(picture, 91)):
                ahead = [a + b for a, b in zip(ahead, wanted)]
                if depth in (20, 41, 64, 89, 90):
                    self.assertEqual(counts(picture, depth), wanted)
                    self.assertEqual(sum(wanted), picture[0][0] ** (2 * depth))
                    self.assertEqual([total(picture, depth, shade) for shade in range(4)], ahead)
                    self.assertEqual(count(picture, depth, 1), wanted[1])

    def test_wide_pictures(self):
        wide = put(made_picture(Random(5), 2, 8), made_picture(Random(6), 2, 8), PARITY)
        self.assertGreater(len(wide[0][1]), 20)
        wanted = counts_by_letters(wide, 91)
        for depth in (0, 1, 7, 64, 90):
            self.assertEqual(counts(wide, depth), wanted[depth])
        exact = ring(4, [1] + [0] * 63)
        self.assertEqual([count(exact, depth, 1) for depth in (0, 63, 64)], [1, 0, 16 ** 64])
        self.assertEqual(total(exact, 90, 1), 1 + 16 ** 64)

    def test_wrong_arguments(self):
        self.pictures_refused(count, -1, None)
        self.pictures_refused(counts, -1)
        self.pictures_refused(total, -1, None)
        for depth in (-1, -10 ** 30):
            self.refused(InvalidDepth, depth, counts, STAIRS, depth)
            for function in (count, total):
                self.refused(InvalidDepth, depth, function, STAIRS, depth, None)
        for shade in NO_SHADES:
            for function in (count, total):
                self.refused(InvalidShade, shade, function, STAIRS, 3, shade)


class RestTest(PromiseCase):
    def test_small_depths(self):
        for picture in made_pictures(63, 12):
            for depth in list(range(8)) + [40, 90]:
                for modulus in (1, 2, 7, 10 ** 9 + 7, 10 ** 119 + 9):
                    for shade in range(4):
                        self.assertEqual(
                            rest(picture, depth, shade, modulus), count(picture, depth, shade) % modulus)

    def test_great_depths(self):
        random = Random(7)
        pictures = made_pictures(64, 3) + [chain(2, 12, (0, 1)), ring(2, [0, 1, 2, 3] * 4), ring(3, [1] + [0] * 12)]
        for picture in pictures:
            self.assertLessEqual(len(coming(picture)), 16)
            for depth in (10 ** 30, 10 ** 30 - 1, random.randrange(10 ** 30)):
                for modulus in (12, 10 ** 119 + 7):
                    for shade in (0, 1):
                        wanted = rest_by_squares(picture, depth, shade, modulus)
                        self.assertEqual(rest(picture, depth, shade, modulus), wanted)

    def test_sixteen_letters(self):
        picture = made_picture(Random(8), 4, 16)
        self.assertEqual(len(coming(picture)), 16)
        for modulus in (5, 10 ** 100):
            wanted = rest_by_squares(picture, 10 ** 30, 2, modulus)
            self.assertEqual(rest(picture, 10 ** 30, 2, modulus), wanted)

    def test_shades_that_never_come(self):
        for depth in (0, 1, 10 ** 30):
            self.assertEqual([rest(STAIRS, depth, shade, 5) for shade in (2, 3)], [0, 0])

    def test_wrong_arguments(self):
        self.pictures_refused(rest, -1, None, 0)
        self.refused(InvalidDepth, -1, rest, STAIRS, -1, None, 0)
        for shade in NO_SHADES:
            self.refused(InvalidShade, shade, rest, STAIRS, 10 ** 30, shade, 0)
        for modulus in (0, -1, -10 ** 100):
            self.refused(InvalidNumber, modulus, rest, STAIRS, 10 ** 30, 1, modulus)


class RuleTest(PromiseCase):
    def test_shortest_rules(self):
        lengths = set()
        for picture in made_pictures(65, 30):
            for shade in range(4):
                found = rule(picture, shade)
                numbers = [row[shade] for row in counts_by_letters(picture, 20)]
                self.assertEqual(found, plain_rule(numbers))
                lengths.add(len(found))
                for n in range(len(found), 20):
                    terms = [above * numbers[n - 1 - i] for i, (above, below) in enumerate(found)]
                    self.assertEqual(sum(terms), numbers[n])
                self.assertTrue(all(below == 1 for _, below in found))
        self.assertTrue({0, 1, 2, 3, 4} <= lengths)

    def test_no_such_cell(self):
        for picture, shade in [(STAIRS, 2), (STAIRS, 3), ((STAIRS[0], 1), 1), (CARPET, 3)]:
            self.assertEqual(rule(picture, shade), [])

    def test_first_numbers_apart_from_all_others(self):
        # One cell at depth 0, or at depth 4, and none behind it.
        self.assertEqual(rule(((2, (1, 0), (((1, 1), (1, 1)), ((1, 1), (1, 1)))), 0), 1), [(0, 1)])
        self.assertEqual(rule(chain(2, 5, (0, 1)), 1), [(0, 1)] * 5)
        self.assertEqual(rule(chain(3, 63, (0, 1)), 1), [(0, 1)] * 63)

    def test_long_rules(self):
        # Once in 64 depths each cell has the shade: 4 ** 128 as many cells as 64 depths ahead.
        exact = ring(4, [1] + [0] * 63)
        self.assertEqual(rule(exact, 1), [(0, 1)] * 63 + [(16 ** 64, 1)])
        wide = put(made_picture(Random(5), 2, 8), made_picture(Random(6), 2, 8), PARITY)
        for shade in range(4):
            found = rule(wide, shade)
            numbers = [row[shade] for row in counts_by_letters(wide, 91)]
            self.assertGreater(len(found), 20)
            for n in range(len(found), 91):
                self.assertEqual(sum(f[0] * numbers[n - 1 - i] for i, f in enumerate(found)), numbers[n])

    def test_wrong_arguments(self):
        self.pictures_refused(rule, None)
        for shade in NO_SHADES:
            self.refused(InvalidShade, shade, rule, STAIRS, shade)
        self.all_new(rule, STAIRS, 0)


class SameCountsTest(PromiseCase):
    def test_all_depths(self):
        pictures = made_pictures(66, 14)
        found = set()
        for at, one in enumerate(pictures):
            for other in pictures[at:at + 6] + [renamed(one), turned(one, 5)]:
                # At as many depths as both have letters, and at far more.
                both = list(zip(counts_by_letters(one, 30), counts_by_letters(other, 30)))
                for shade in range(4):
                    depths = [n for n, (row, line) in enumerate(both) if row[shade] != line[shade]]
                    told = first_unlike_count(one, other, shade)
                    self.assertEqual(told, depths[0] if depths else None)
                    self.assertIs(same_counts(one, other, shade), not depths)
                    found.add((told, one[0][0] == other[0][0]))
        self.assertTrue({(None, True), (None, False), (0, True), (0, False), (1, True), (2, True)} <= found)

    def test_as_many_but_not_alike(self):
        self.assertIs(same_counts(STAIRS, OTHER, 1), True)
        self.assertIsNone(first_unlike_count(STAIRS, turned(STAIRS, 1), 0))

    def test_bases_may_be_unlike(self):
        whole = ((4, (1,), ((((0,) * 4,) * 4),)), 0)
        self.assertEqual(first_unlike_count(ring(2, [1]), whole, 1), 1)
        self.assertEqual(first_unlike_count(ring(2, [1]), whole, 2), None)
        self.assertIs(same_counts(STAIRS, CARPET, 2), True)
        self.assertIs(same_counts(STAIRS, CARPET, 1), False)

    def test_late(self):
        # What comes at depth 60 alone, then at depth 61 alone.
        self.assertEqual(first_unlike_count(chain(2, 61, (0, 1)), chain(2, 62, (1, 1)), 1), 60)
        self.assertEqual(first_unlike_count(chain(2, 63, (0, 1)), chain(3, 63, (1, 1)), 1), None)
        self.assertEqual(first_unlike_count(ring(2, [0] * 60 + [1]), ring(2, [0] * 63 + [1]), 1), 60)
        self.assertEqual(first_unlike_count(ring(2, [1] * 8), ring(2, [1] * 7 + [0]), 0), 7)

    def test_fact_c1(self):
        for picture in made_pictures(67, 10):
            rows = counts_by_letters(picture, len(coming(picture)) + 1)
            for shade in range(4):
                same = all(row[shade] == 0 for row in rows)
                self.assertIs(same_counts(picture, ring(picture[0][0], [(shade + 1) % 4]), shade), same)

    def test_wrong_arguments(self):
        for function in (same_counts, first_unlike_count):
            for value in NO_PICTURES:
                self.refused(InvalidPicture, value, function, value, None, None)
                self.refused(InvalidPicture, value, function, STAIRS, value, None)
            for shade in NO_SHADES:
                self.refused(InvalidShade, shade, function, STAIRS, CARPET, shade)


class RelationsTest(PromiseCase):
    def test_one_reduced_form(self):
        lengths = set()
        for picture in made_pictures(68, 40) + [ring(2, [0, 1, 2, 3, 0])]:
            found = relations(picture)
            self.assertEqual(found, plain_relations(counts_by_letters(picture, 12), 4))
            lengths.add(len(found))
        self.assertTrue({0, 1, 2, 3} <= lengths)

    def test_shades_in_proportion(self):
        # Twice as many cells of shade 2 as of shade 0, at each depth from 1 on, and at depth 0 none of both.
        picture = ((2, (1, 0, 2), (((0, 1), (2, 2)), ((1, 1), (1, 1)), ((2, 2), (2, 2)))), 0)
        self.assertEqual(relations(picture), [((1, 1), (0, 1), (-1, 2), (0, 1)), ((0, 1), (0, 1), (0, 1), (1, 1))])
        self.assertEqual(len(relations(ring(2, [3]))), 3)

    def test_many_letters(self):
        exact = ring(4, [1] + [0] * 62 + [2])
        self.assertEqual(relations(exact), [((0, 1), (0, 1), (0, 1), (1, 1))])

    def test_wrong_pictures(self):
        self.pictures_refused(relations)
        self.all_new(relations, STAIRS)


class DependentTest(PromiseCase):
    def test_one_reduced_form(self):
        random = Random(9)
        pictures = made_pictures(69, 12)
        lengths = set()
        for _ in range(60):
            some = [random.choice(pictures) for _ in range(random.randrange(1, 7))]
            shade = random.randrange(3)
            rows = [[row[shade] for row in line] for line in zip(*[counts_by_letters(p, 45) for p in some])]
            found = dependent(some, shade)
            self.assertEqual(found, plain_relations(rows, len(some)))
            lengths.add(len(found))
        self.assertTrue({0, 1, 2} <= lengths)

    def test_examples_by_hand(self):
        self.assertEqual(dependent([STAIRS], 1), [])
        self.assertEqual(dependent([STAIRS], 2), [((1, 1),)])
        self.assertEqual(dependent([STAIRS, OTHER], 1), [((1, 1), (-1, 1))])
        self.assertEqual(dependent([STAIRS, CARPET, OTHER], 1), [((1, 1), (0, 1), (-1, 1))])
        # 4 ** n cells, of which 3 ** n have shade 1 and the others shade 0.
        whole = ring(2, [0])
        turn = ((2, (0, 1), (((0, 1), (0, 0)), ((1, 1), (1, 1)))), 0)
        self.assertEqual(dependent([whole, turn, STAIRS, LATE], 0), plain_relations(
            [[4 ** n, 3 ** n, 4 ** n - 3 ** n, 4 ** n - 3 ** n] for n in range(20)], 4))

    def test_wide_pictures(self):
        one, other = ring(2, [0] * 60 + [1]), ring(3, [0] * 63 + [1])
        self.assertEqual(dependent([one, other], 1), [])
        self.assertEqual(dependent([one, other, one], 1), [((1, 1), (0, 1), (-1, 1))])

    def test_the_list_is_left_as_it_was(self):
        some = [STAIRS, CARPET]
        dependent(some, 1)
        self.assertEqual(some, [STAIRS, CARPET])
        self.all_new(dependent, [STAIRS, STAIRS, CARPET], 1)

    def test_wrong_arguments(self):
        for value in NO_PICTURES:
            self.refused(InvalidPicture, value, dependent, [value] * 7, None)
            self.refused(InvalidPicture, value, dependent, [STAIRS, value, None], None)
        self.refused(InvalidPicture, [], dependent, [STAIRS, [], 0, [1]], 1)
        self.refused(InvalidNumber, 0, dependent, [], None)
        self.refused(InvalidNumber, 7, dependent, [STAIRS] * 7, None)
        self.assertEqual(len(dependent([STAIRS] * 6, 1)), 5)
        for shade in NO_SHADES:
            self.refused(InvalidShade, shade, dependent, [STAIRS, CARPET], shade)


if __name__ == "__main__":
    unittest.main()
