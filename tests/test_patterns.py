import unittest
from itertools import product
from random import Random

from everydepth.errors import InvalidDepth, InvalidNumber, InvalidPattern
from everydepth.patterns import (
    comes, first_depth, first_place, last_place, pattern_at, pattern_count, pattern_rule, patterns, patterns_at,
)
from tests.helper import PromiseCase
from tests.model import CARPET, STAIRS, chain, made_picture, ring, shade_sheet, sparse_picture
from tests.model_numbers import pattern_places, patterns_in, plain_rule

DEPTHS = {2: 6, 3: 4, 4: 3}
NO_PATTERNS = [
    None, 0, True, "1", "", (), [], {}, set(), object(), ((),), ([1],), [(1,)], [[1]], (1,), (1, 0), ((1,), (1, 0)),
    ((1, 0), (1,)), ((1,), ()), ((1,), None), ((1,), [1]), ((4,),), ((-1,),), ((True,),), ((False, 0),), (("1",),),
    ((None,),), (([1],),), (((1,),),), ((1,), (1,), (1,), (1,)), ((1, 1, 1, 1),), ((1, 0), (1, [0, [2]])), ((0, 1), "01"),
]


def few_letters(seed, many, letters=4):
    """Made pictures of which at most so many letters come."""
    random = Random(seed)
    found = [STAIRS, CARPET, (STAIRS[0], 1)]
    while len(found) < many:
        made = sparse_picture if len(found) % 2 else made_picture
        found.append(made(random, 2 + len(found) % 3, random.randrange(1, letters + 1), random.randrange(1, 4)))
    return found


class PatternsTest(PromiseCase):
    def test_examples(self):
        self.assertEqual(
            [comes(STAIRS, ((0, 0), (1, 1))), first_depth(STAIRS, ((1, 0, 1),)), first_place(STAIRS, 2, ((1, 1),)),
             last_place(STAIRS, 2, ((1, 1),)), pattern_count(STAIRS, 2, ((1, 0),))],
            [False, 2, (1, 0), (3, 2), 4])
        self.assertEqual(patterns(STAIRS, 2, 1), [((0,), (0,)), ((0,), (1,)), ((1,), (0,)), ((1,), (1,))])

    def test_places_found_one_by_one(self):
        random = Random(1)
        found = set()
        for picture in few_letters(71, 60):
            base = picture[0][0]
            rows, columns = random.randrange(1, base + 2), random.randrange(1, base + 2)
            some = random.sample(patterns(picture, rows, columns), 1)
            some.append(tuple(tuple(random.randrange(2) for _ in range(columns)) for _ in range(rows)))
            for pattern in some:
                depths = []
                for depth in range(DEPTHS[base]):
                    places = pattern_places(picture, depth, pattern)
                    self.assertIs(pattern_at(picture, depth, pattern), bool(places))
                    self.assertEqual(first_place(picture, depth, pattern), places[0] if places else None)
                    self.assertEqual(last_place(picture, depth, pattern), places[-1] if places else None)
                    self.assertEqual(pattern_count(picture, depth, pattern), len(places))
                    depths += [depth] if places else []
                told = first_depth(picture, pattern)
                self.assertIs(comes(picture, pattern), told is not None)
                if depths:
                    self.assertEqual(told, depths[0])
                else:
                    self.assertTrue(told is None or told >= DEPTHS[base])
                found.add((base, told))
        self.assertTrue({(2, None), (3, None), (2, 0), (2, 1), (2, 2), (3, 1), (4, 1), (3, 2)} <= found)

    def test_all_patterns_of_each_size(self):
        for picture in few_letters(72, 14):
            base = picture[0][0]
            for rows, columns in product(range(1, base + 2), repeat=2):
                found = set()
                for depth in range(DEPTHS[base]):
                    wanted = patterns_in(picture, depth, rows, columns)
                    self.assertEqual(patterns_at(picture, depth, rows, columns), wanted)
                    found.update(wanted)
                told = patterns(picture, rows, columns)
                self.assertTrue(found <= set(told))
                self.assertEqual(told, sorted(set(told)))
                # What comes later alone is told with its depth.
                for pattern in set(told) - found:
                    self.assertGreaterEqual(first_depth(picture, pattern), DEPTHS[base])

    def test_first_and_last_places_of_all_patterns(self):
        # Of two rows or columns, and of one more than the base: most of them stand across seams of great blocks alone.
        for picture in few_letters(74, 30):
            base = picture[0][0]
            depth = DEPTHS[base] - 1
            for rows, columns in [(1, 2), (2, 1), (2, 2), (1, base + 1), (base + 1, 1)]:
                sheet = shade_sheet(picture, depth)
                places = {}
                for r, c in product(range(len(sheet) - rows + 1), range(len(sheet) - columns + 1)):
                    pattern = tuple(tuple(row[c:c + columns]) for row in sheet[r:r + rows])
                    places.setdefault(pattern, []).append((r, c))
                for pattern, found in places.items():
                    self.assertEqual(first_place(picture, depth, pattern), found[0])
                    self.assertEqual(last_place(picture, depth, pattern), found[-1])
                    self.assertEqual(pattern_count(picture, depth, pattern), len(found))

    def test_one_cell(self):
        self.assertEqual(patterns(STAIRS, 1, 1), [((0,),), ((1,),)])
        self.assertEqual([patterns_at(STAIRS, depth, 1, 1) for depth in (0, 1)], [[((1,),)], [((0,),), ((1,),)]])
        self.assertEqual([first_depth(STAIRS, ((shade,),)) for shade in range(4)], [1, 0, None, None])
        self.assertEqual(first_place(STAIRS, 0, ((1,),)), (0, 0))
        self.assertEqual(last_place(STAIRS, 0, ((1,),)), (0, 0))
        self.assertIsNone(first_place(STAIRS, 0, ((0,),)))
        self.assertEqual([pattern_count(STAIRS, depth, ((1,),)) for depth in range(5)], [1, 3, 9, 27, 81])
        # A shade of depth 0 alone.
        late = ((2, (3, 1), (((1, 1), (1, 1)), ((1, 1), (1, 1)))), 0)
        self.assertEqual(patterns(late, 1, 1), [((1,),), ((3,),)])
        self.assertEqual([pattern_at(late, depth, ((3,),)) for depth in (0, 1, 90)], [True, False, False])
        self.assertEqual(pattern_rule(late, ((3,),)), [])

    def test_depth_0(self):
        for rows, columns in [(1, 2), (2, 1), (3, 3)]:
            pattern = ((1,) * columns,) * rows
            self.assertEqual(patterns_at(STAIRS, 0, rows, columns), [])
            self.assertIs(pattern_at((STAIRS[0], 1), 0, pattern), False)
            self.assertEqual(pattern_count(STAIRS, 0, pattern), 0)
            self.assertIsNone(first_place(STAIRS, 0, pattern))

    def test_base_and_one_more(self):
        whole = ((3, (1,), (((0, 0, 0),) * 3,)), 0)
        block = ((1,) * 4,) * 4
        self.assertEqual([pattern_count(whole, depth, block) for depth in (0, 1, 2, 90)],
                         [0, 0, 36, (3 ** 90 - 3) ** 2])
        self.assertEqual(first_depth(whole, block), 2)
        self.assertEqual(last_place(whole, 90, block), (3 ** 90 - 4, 3 ** 90 - 4))
        self.assertEqual(patterns(whole, 4, 4), [block])

    def test_depths_of_90(self):
        # The left column has shade 1, and so has the last row.
        self.assertEqual(first_place(STAIRS, 90, ((1,), (1,))), (0, 0))
        self.assertEqual(last_place(STAIRS, 90, ((1, 1),)), (2 ** 90 - 1, 2 ** 90 - 2))
        self.assertEqual(last_place(STAIRS, 90, ((1,), (1,))), (2 ** 90 - 2, 2 ** 90 - 2))
        self.assertEqual(last_place(STAIRS, 90, ((0,), (1,))), (2 ** 90 - 2, 2 ** 90 - 1))
        self.assertIsNone(first_place(STAIRS, 90, ((0, 0), (1, 1))))
        self.assertEqual(pattern_count(STAIRS, 90, ((1,),)), 3 ** 90)
        self.assertEqual(first_place(STAIRS, 90, ((1, 1, 1),)), (3, 0))
        middle = (3 ** 90 - 1) // 2
        hole = ((3, (1, 0), (((1, 1, 1), (1, 0, 1), (1, 1, 1)), ((1, 1, 1),) * 3)), 0)
        ring_of = ((0, 0, 0), (0, 1, 0), (0, 0, 0))
        self.assertEqual(first_place(hole, 90, ring_of), (middle - 1, middle - 1))
        self.assertEqual(last_place(hole, 90, ring_of), (middle - 1, middle - 1))
        self.assertEqual(pattern_count(hole, 90, ring_of), 1)

    def test_reading_order_is_by_whole_rows(self):
        # The cell comes at (1, 0) then (0, 1), at (2, 1), and at (0, 1) then (1, 0), at (1, 2).
        blocks = (((3, 1), (2, 3)), ((3, 3), (4, 3)), ((3, 4), (3, 3)), ((3, 3), (3, 3)), ((4, 4), (4, 4)))
        picture = ((2, (0, 0, 0, 0, 1), blocks), 0)
        self.assertEqual([first_place(picture, 2, ((1,),)), last_place(picture, 2, ((1,),))], [(1, 2), (2, 1)])

    def test_numbers_of_depths_that_alternate(self):
        picture = ring(2, [0, 1, 2])
        for depth in (1, 2, 3, 88, 89, 90):
            self.assertEqual([pattern_at(picture, depth, ((s, s), (s, s))) for s in range(3)],
                             [depth % 3 == s for s in range(3)])
            self.assertEqual(patterns_at(picture, depth, 1, 2), [((depth % 3,) * 2,)])
        self.assertEqual(patterns(picture, 1, 3), [((s,) * 3,) for s in range(3)])

    def test_rules(self):
        random = Random(3)
        lengths = set()
        for picture in few_letters(73, 24, 3):
            base = picture[0][0]
            rows, columns = random.randrange(1, base + 2), random.randrange(1, base + 2)
            pattern = random.choice(patterns(picture, rows, columns))
            found = pattern_rule(picture, pattern)
            # The number at depth 0 is left aside.
            numbers = [pattern_count(picture, depth, pattern) for depth in range(1, 41)]
            self.assertEqual(found, plain_rule(numbers))
            lengths.add(len(found))
        self.assertTrue({2, 3, 6} <= lengths)
        self.assertEqual(pattern_rule(STAIRS, ((1,),)), [(3, 1)])
        self.assertEqual(pattern_rule(STAIRS, ((2,),)), [])
        self.assertEqual(pattern_rule(STAIRS, ((0, 0), (1, 1))), [])
        self.all_new(pattern_rule, STAIRS, ((1, 0),))

    def test_late_patterns(self):
        self.assertEqual(first_depth(chain(2, 30, (1, 0)), ((1,),)), 29)
        self.assertEqual(first_depth(chain(2, 30, (0, 0)), ((1, 0), (0, 0))), 29)
        self.assertIsNone(first_depth(chain(2, 30, (0, 0)), ((0, 1), (0, 0))))

    def test_lists_are_new(self):
        self.all_new(patterns, STAIRS, 2, 2)
        self.all_new(patterns_at, STAIRS, 2, 2, 2)
        self.all_new(patterns_at, STAIRS, 0, 1, 1)


class WrongArgumentsTest(PromiseCase):
    def test_pictures_and_depths(self):
        for function in (comes, first_depth, pattern_rule):
            self.pictures_refused(function, None)
        for function in (pattern_at, first_place, last_place, pattern_count):
            self.pictures_refused(function, -1, None)
            self.refused(InvalidDepth, -1, function, STAIRS, -1, None)
        self.pictures_refused(patterns, 0, 0)
        self.pictures_refused(patterns_at, -1, 0, 0)
        self.refused(InvalidDepth, -3, patterns_at, STAIRS, -3, 0, 0)

    def test_patterns(self):
        for value in NO_PATTERNS:
            for function in (comes, first_depth, pattern_rule):
                self.refused(InvalidPattern, value, function, STAIRS, value)
            for function in (pattern_at, first_place, last_place, pattern_count):
                self.refused(InvalidPattern, value, function, STAIRS, 2, value)
        # Of base 3 four rows are allowed, and five are not.
        self.assertIs(comes(CARPET, ((1,),) * 4), True)
        self.refused(InvalidPattern, ((1,),) * 5, comes, CARPET, ((1,),) * 5)
        self.refused(InvalidPattern, ((1, 1, 1, 1, 1),), comes, CARPET, ((1, 1, 1, 1, 1),))

    def test_rows_and_columns(self):
        for number in (0, -1, 4, 10 ** 100):
            self.refused(InvalidNumber, number, patterns, STAIRS, number, 99)
            self.refused(InvalidNumber, number, patterns, STAIRS, 1, number)
            self.refused(InvalidNumber, number, patterns_at, STAIRS, 1, number, 99)
            self.refused(InvalidNumber, number, patterns_at, STAIRS, 1, 3, number)
        self.assertEqual(patterns_at(CARPET, 1, 4, 4), [])
        self.refused(InvalidNumber, 5, patterns_at, CARPET, 1, 4, 5)


if __name__ == "__main__":
    unittest.main()
