import unittest
from itertools import product

from everydepth.alike import alike
from everydepth.errors import InvalidDepth, InvalidLetter
from everydepth.pictures import (
    coming, comes_at, first_coming, first_way, is_book, is_picture, last_coming, trimmed,
)
from tests.helper import PromiseCase
from tests.model import (
    CARPET, LATE, NO_BOOKS, NO_PICTURES, OTHER, STAIRS, chain, letters_by_depth, made_pictures, ring,
)


class WhatTheyAreTest(PromiseCase):
    def test_books(self):
        for picture in [STAIRS, OTHER, LATE, CARPET] + made_pictures(1, 5):
            self.assertIs(is_book(picture[0]), True)
        for letters in (1, 8, 63, 64):
            self.assertIs(is_book(ring(4, [3] * letters)[0]), True)

    def test_no_books(self):
        for value in NO_BOOKS + [STAIRS]:
            self.assertIs(is_book(value), False, value)

    def test_pictures(self):
        for picture in [STAIRS, (STAIRS[0], 1), CARPET, ring(2, [0] * 64, 63)] + made_pictures(2, 5):
            self.assertIs(is_picture(picture), True)

    def test_no_pictures(self):
        for value in NO_PICTURES + [ring(2, [0] * 64, 64), ring(2, [0] * 65)]:
            self.assertIs(is_picture(value), False, value)

    def test_equality_of_an_object_plays_no_part(self):
        class Any:
            def __eq__(self, other):
                return True
        for value in [(Any(), (1, 0), STAIRS[0][2]), (2, (Any(), 0), STAIRS[0][2]), (2, (1, 0), Any()), Any()]:
            self.assertIs(is_book(value), False)
            self.assertIs(is_picture((value, 0)), False)
        self.assertIs(is_picture((STAIRS[0], Any())), False)


class ComingTest(PromiseCase):
    def test_examples(self):
        self.assertEqual(
            [coming(STAIRS), comes_at(STAIRS, 1, 10 ** 30), first_way(STAIRS, 1), last_coming(STAIRS, 0),
             trimmed((STAIRS[0], 1))],
            [[0, 1], True, [(0, 1)], None, ((2, (0,), (((0, 0), (0, 0)),)), 0)])

    def test_depths_at_which_letters_come(self):
        for picture in made_pictures(3, 40):
            sets = letters_by_depth(picture, 60)
            self.assertEqual(coming(picture), sorted(set().union(*sets)))
            for letter in range(len(picture[0][1])):
                depths = [depth for depth, letters in enumerate(sets) if letter in letters]
                self.assertEqual(first_coming(picture, letter), depths[0] if depths else None)
                # No more than seven letters: one that comes at depth 7 or later comes for ever.
                endless = not depths or depths[-1] >= 7
                self.assertEqual(last_coming(picture, letter), None if endless else depths[-1])
                for depth in (0, 1, 2, 3, 7, 20, 59):
                    self.assertIs(comes_at(picture, letter, depth), depth in depths)

    def test_letters_that_never_come(self):
        for function in (first_coming, last_coming, first_way):
            self.assertIsNone(function((STAIRS[0], 1), 0))
        for depth in (0, 1, 90, 10 ** 30):
            self.assertIs(comes_at((STAIRS[0], 1), 0, depth), False)

    def test_great_depths_on_rings(self):
        for letters in (1, 2, 7, 8, 63, 64):
            picture = ring(3, [1] * letters, letters // 2)
            for depth in (10 ** 30, 10 ** 30 - 1, 10 ** 29 + 7, 90, 64):
                for letter in (0, letters // 3, letters - 1):
                    here = (letters // 2 + depth) % letters == letter
                    self.assertIs(comes_at(picture, letter, depth), here)

    def test_great_depths_on_two_rings(self):
        # 0 leads into rings of 3 and of 4 letters: 1..3 and 4..7.
        blocks = [((1, 4), (1, 4))] + [((n, n), (n, n)) for n in (2, 3, 1, 5, 6, 7, 4)]
        picture = ((2, (0,) * 8, tuple(blocks)), 0)
        for depth in (1, 5, 12, 10 ** 30, 10 ** 30 + 5):
            found = [letter for letter in range(8) if comes_at(picture, letter, depth)]
            self.assertEqual(found, [1 + (depth - 1) % 3, 4 + (depth - 1) % 4])
        self.assertEqual([comes_at(picture, 0, depth) for depth in (0, 1, 10 ** 30)], [True, False, False])
        self.assertEqual([last_coming(picture, 0), last_coming(picture, 5)], [0, None])

    def test_late_and_last(self):
        picture = chain(2, 50, (1, 0))
        self.assertEqual([first_coming(picture, 49), last_coming(picture, 49)], [49, 49])
        self.assertEqual([first_coming(picture, 50), last_coming(picture, 50)], [1, None])
        self.assertEqual([comes_at(picture, 49, depth) for depth in (48, 49, 50, 10 ** 30)], [False, True, False, False])

    def test_last_is_not_first(self):
        # Letter 3 comes at the depths 1, 2 and 3, behind it letter 4 alone.
        blocks = (((1, 3), (3, 3)), ((2, 3), (3, 3)), ((3, 3), (3, 3)), ((4, 4), (4, 4)), ((4, 4), (4, 4)))
        picture = ((2, (0,) * 5, blocks), 0)
        self.assertEqual([first_coming(picture, 3), last_coming(picture, 3)], [1, 3])

    def test_letters_beside_an_endless_round(self):
        # 0 leads into the round of 1 and 2, and to 3, 4, 5, 6, of which the last one alone stays.
        blocks = (((1, 3), (3, 3)),) + tuple(((n, n), (n, n)) for n in (2, 1, 4, 5, 6, 6))
        picture = ((2, (0,) * 7, blocks), 0)
        self.assertEqual([last_coming(picture, letter) for letter in range(7)], [0, None, None, 1, 2, 3, None])

    def test_first_ways(self):
        for picture in made_pictures(4, 25):
            base, blocks = picture[0][0], picture[0][2]
            places = list(product(range(base), range(base)))
            for letter in range(len(blocks)):
                depth = first_coming(picture, letter)
                if depth is None or base ** (2 * depth) > 5000:
                    continue
                ways = []
                for way in product(places, repeat=depth):
                    at = picture[1]
                    for i, j in way:
                        at = blocks[at][i][j]
                    if at == letter:
                        ways.append(list(way))
                self.assertEqual(first_way(picture, letter), min(ways))
        self.assertEqual(first_way(STAIRS, 0), [])
        self.assertEqual(first_way(chain(4, 60, (2, 3)), 59), [(2, 3)] * 59)
        self.all_new(first_way, STAIRS, 1)
        self.all_new(coming, STAIRS)

    def test_trimmed(self):
        for picture in made_pictures(5, 40):
            made = trimmed(picture)
            self.assertIs(is_picture(made), True)
            self.assertEqual(len(made[0][1]), len(coming(picture)))
            self.assertTrue(alike(made, picture))
            ways = [first_way(made, letter) for letter in range(len(made[0][1]))]
            self.assertEqual(ways, sorted(ways, key=lambda way: (len(way), way)))
            self.assertEqual(sorted(ways), sorted(first_way(picture, letter) for letter in coming(picture)))
            self.assertEqual(trimmed(made), made)
        # Letters of one shade stay apart: trimmed is not least.
        self.assertEqual(trimmed(ring(2, [1] * 64, 5)), ring(2, [1] * 64))

    def test_wrong_pictures(self):
        for function in (coming, trimmed):
            self.pictures_refused(function)
        for function in (first_coming, last_coming, first_way):
            self.pictures_refused(function, -1)
        self.pictures_refused(comes_at, -1, -1)

    def test_wrong_letters_and_depths(self):
        for letter in (-1, 2, 64, 10 ** 100):
            for function in (first_coming, last_coming, first_way):
                self.refused(InvalidLetter, letter, function, STAIRS, letter)
            self.refused(InvalidLetter, letter, comes_at, STAIRS, letter, -1)
        for depth in (-1, -10 ** 30):
            self.refused(InvalidDepth, depth, comes_at, STAIRS, 1, depth)


if __name__ == "__main__":
    unittest.main()
