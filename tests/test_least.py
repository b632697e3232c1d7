import unittest

from everydepth.alike import alike, parting
from everydepth.errors import InvalidBook
from everydepth.least import classes, is_least, least, telling_depth
from everydepth.pictures import coming, first_way, is_picture, trimmed
from everydepth.walks import merged
from tests.helper import PromiseCase
from tests.model import CARPET, NO_BOOKS, STAIRS, chain, made_pairs, made_pictures, renamed, ring
from tests.test_alike import wide_book

THREE = (2, (1, 0, 0), (((0, 1), (0, 0)), ((1, 2), (2, 1)), ((2, 2), (1, 1))))


def letters_of(picture):
    return range(len(picture[0][1]))


class ClassesTest(PromiseCase):
    def test_examples(self):
        self.assertEqual(
            [classes(THREE), least((THREE, 0)) == STAIRS, is_least(STAIRS), is_least((THREE, 0)), telling_depth(THREE)],
            [[[0], [1, 2]], True, True, False, 0])

    def test_classes(self):
        for picture in made_pictures(31, 25):
            book = picture[0]
            found = []
            for letter in letters_of(picture):
                friends = [other for other in letters_of(picture) if alike((book, letter), (book, other))]
                if friends not in found:
                    found.append(friends)
            self.assertEqual(classes(book), found)
        self.all_new(classes, THREE)

    def test_telling_depths(self):
        found = set()
        for picture in made_pictures(32, 40):
            book = picture[0]
            partings = [parting((book, a), (book, b)) for a in letters_of(picture) for b in range(a)]
            depths = [told[0] for told in partings if told is not None]
            self.assertEqual(telling_depth(book), max(depths, default=0))
            self.assertLess(telling_depth(book), len(classes(book)))
            found.add(telling_depth(book))
        self.assertTrue({0, 1, 2, 3} <= found)

    def test_late_telling(self):
        # Letter 0 leads to the one cell at depth 62, letter 63 never does.
        self.assertEqual(telling_depth(chain(3, 63, (1, 1))[0]), 62)
        self.assertEqual(classes(chain(3, 63, (1, 1))[0]), [[letter] for letter in range(64)])
        self.assertEqual(telling_depth(ring(2, [0] * 63 + [1])[0]), 62)
        self.assertEqual(telling_depth(ring(2, [1] * 64)[0]), 0)
        self.assertEqual(classes(ring(2, [1] * 64)[0]), [list(range(64))])
        self.assertEqual(classes(ring(2, [1, 0] * 32)[0]), [list(range(0, 64, 2)), list(range(1, 64, 2))])

    def test_letters_that_do_not_come_count(self):
        book = (2, (0, 0, 1), (((0, 0), (0, 0)), ((0, 0), (0, 2)), ((2, 2), (2, 2))))
        self.assertEqual([classes(book), telling_depth(book)], [[[0], [1], [2]], 1])

    def test_wrong_books(self):
        for value in NO_BOOKS + [STAIRS]:
            self.refused(InvalidBook, value, classes, value)
            self.refused(InvalidBook, value, telling_depth, value)


class LeastTest(PromiseCase):
    def test_least(self):
        for picture in made_pictures(33, 40):
            made = least(picture)
            self.assertIs(is_picture(made), True)
            self.assertTrue(alike(made, picture))
            # It has a letter for each class that comes.
            kinds = [kind for kind in classes(picture[0]) if set(kind) & set(coming(picture))]
            self.assertEqual(len(made[0][1]), len(kinds))
            self.assertEqual(classes(made[0]), [[letter] for letter in letters_of(made)])
            ways = [first_way(made, letter) for letter in letters_of(made)]
            self.assertEqual(ways, sorted(ways, key=lambda way: (len(way), way)))
            self.assertEqual(trimmed(made), made)
            self.assertEqual(least(made), made)
            self.assertIs(is_least(made), True)
            self.assertIs(is_least(picture), made == picture)

    def test_alike_exactly_if_equal(self):
        found = set()
        for one, other in made_pairs(34, 20):
            self.assertIs(alike(one, other), least(one) == least(other))
            found.add(alike(one, other))
        self.assertEqual(found, {True, False})

    def test_names_and_idle_letters_tell(self):
        self.assertIs(is_least(CARPET), True)
        self.assertIs(is_least(renamed(CARPET)), False)
        self.assertEqual(least(renamed(CARPET)), CARPET)
        idle = ((2, (1, 0, 2), STAIRS[0][2] + (((0, 0), (0, 0)),)), 0)
        self.assertIs(is_least(idle), False)
        self.assertEqual(least(idle), STAIRS)
        self.assertIs(is_least(((2, (0, 1), (((1, 1), (1, 1)), ((1, 0), (0, 0)))), 1)), False)

    def test_sixty_four_letters(self):
        picture = ring(4, [0] * 63 + [1])
        self.assertIs(is_least(picture), True)
        self.assertEqual(least((picture[0], 5)), ring(4, [0] * 58 + [1] + [0] * 5))
        self.assertEqual(least(ring(2, [0, 1, 2, 3] * 16, 2)), ring(2, [2, 3, 0, 1]))
        self.assertEqual(least(ring(2, [3] * 64, 9)), ring(2, [3]))
        wide = (wide_book(), 3)
        self.assertEqual(least(wide), trimmed(wide))

    def test_wrong_pictures(self):
        self.pictures_refused(least)
        self.pictures_refused(is_least)


class MergedTest(unittest.TestCase):
    def test_as_round_by_round(self):
        for seed, picture in enumerate(made_pictures(35, 40)):
            steps = [[letter for row in block for letter in row] for block in picture[0][2]]
            kinds = list(picture[0][1])
            for _ in steps:
                marks = [(kind, tuple(kinds[after] for after in nexts)) for kind, nexts in zip(kinds, steps)]
                kinds = [marks.index(mark) for mark in marks]
            found = merged(steps, list(picture[0][1]))
            for a in range(len(steps)):
                for b in range(len(steps)):
                    self.assertIs(found[a] == found[b], kinds[a] == kinds[b], seed)
            self.assertEqual(sorted(set(found)), list(range(len(set(kinds)))))


if __name__ == "__main__":
    unittest.main()
