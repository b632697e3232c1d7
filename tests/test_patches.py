"""Patches, what lies across their seams, and what leads to a pattern, against letters unfolded cell by cell."""

import unittest
from random import Random

from everydepth.cells import side_of
from everydepth.livingpatches import LivingPatches
from everydepth.patches import MOST, Patches, explored, few_letters
from everydepth.patterns import (
    comes, first_depth, first_place, last_place, pattern_at, pattern_count, pattern_rule, patterns, patterns_at,
)
from everydepth.windows import WIDTH, Finder, Windows, places_in
from tests.model import CARPET, STAIRS, chain, falling_picture, letter_sheet, made_picture, ring, sparse_picture
from tests.model_numbers import pattern_places, patterns_in


def few_pictures(seed, many, most=4):
    """Made pictures of which few letters come, of one letter to most."""
    random = Random(seed)
    found = [STAIRS, CARPET, (CARPET[0], 1), ring(2, [0, 1, 1]), ring(3, [2])]
    while len(found) < many:
        made = random.choice([made_picture, sparse_picture, falling_picture])
        found.append(made(random, 2 + len(found) % 3, random.randrange(1, most + 1)))
    return random, found


def some_pattern(random, base, shades):
    rows, columns = random.randrange(1, base + 2), random.randrange(1, base + 2)
    return tuple(tuple(random.choice(shades) for _ in range(columns)) for _ in range(rows))


def patch_rows(patches, patch):
    """The rows of letters of a patch."""
    return [patches.letters_of(half) for half in patches.halves(patch)]


def unfolded_patch(patches, patch):
    """The rows of shades of the blocks of the letters of a patch."""
    found = []
    for letters in patch_rows(patches, patch):
        for i in range(patches.base):
            found.append([patches.shades[inner] for letter in letters for inner in patches.letter_blocks[letter][i]])
    return found


def across_seams(patches, patch, rows, columns):
    """For each place (i, j) of a window of a patch that has a part of each of its letters the pattern there."""
    told = unfolded_patch(patches, patch)
    base = patches.base
    found = {}
    for i in range(len(told) - rows + 1):
        for j in range(len(told[0]) - columns + 1):
            high = len(told) == base or i < base < i + rows
            wide = len(told[0]) == base or j < base < j + columns
            if high and wide:
                found[i, j] = tuple(tuple(told[i + r][j:j + columns]) for r in range(rows))
    return found


def patches_in(picture, depth, rows, columns):
    """The rows of letters of all patches, of no more rows and columns, in the letter sheet of a depth."""
    letters = letter_sheet(picture, depth)
    found = set()
    for high in range(1, rows + 1):
        for wide in range(1, columns + 1):
            for r in range(len(letters) - high + 1):
                for c in range(len(letters) - wide + 1):
                    found.add(tuple(tuple(letters[r + i][c:c + wide]) for i in range(high)))
    return found


class PatchesTest(unittest.TestCase):
    def test_patches_of_each_depth(self):
        random, pictures = few_pictures(1, 40)
        for picture in pictures:
            deepest = {2: 5, 3: 3, 4: 2}[picture[0][0]]
            for rows, columns in [(1, 1), (1, 2), (2, 1), (2, 2)]:
                patches = Patches(picture, rows, columns, False)
                for depth in range(deepest + 1):
                    told = patches.patches_at(depth)
                    self.assertEqual(len(told), len(set(told)))
                    rows_told = {tuple(tuple(letters) for letters in patch_rows(patches, patch)) for patch in told}
                    self.assertEqual(rows_told, patches_in(picture, depth, rows, columns))

    def test_patches_of_great_depths(self):
        random, pictures = few_pictures(2, 60)
        for picture in pictures + [ring(2, [0] * 8), ring(4, [1, 2] * 4, 3), chain(2, 7, (1, 0))]:
            patches = explored(picture, 2, 2, False, None)
            here = {0}
            for depth in range(91):
                if depth in (1, 2, 7, 8, 9, 30, 89, 90):
                    self.assertEqual(set(patches.patches_at(depth)), {patches.nodes[node] for node in here})
                here = {child for node in here for child in patches.children[node]}
            self.assertEqual(set(patches.all_patches()), set(patches.nodes))

    def test_what_lies_across_the_seams(self):
        random, pictures = few_pictures(3, 30)
        for picture in pictures:
            base = picture[0][0]
            for _ in range(4):
                pattern = some_pattern(random, base, picture[0][1][:2])
                rows, columns = len(pattern), len(pattern[0])
                patches = Patches(picture, min(rows, 2), min(columns, 2), False)
                come = patches.all_patches()
                windows = {patch: across_seams(patches, patch, rows, columns) for patch in come}
                wanted = sorted({told for some in windows.values() for told in some.values()})
                self.assertEqual(Windows(patches, rows, columns).all_in(come), wanted)
                if wanted and random.randrange(4):
                    pattern = random.choice(wanted)
                begins = {patch: [place for place, told in some.items() if told == pattern]
                          for patch, some in windows.items()}
                finder = Finder(patches, pattern)
                places = {patch: places_in(told) for patch, told in finder.all_places(come, come).items()}
                self.assertEqual(places, {patch: told for patch, told in begins.items() if told})
                for patch in come:
                    self.assertIs(finder.begins_in(patch), bool(begins[patch]))

    def test_sets_of_places(self):
        self.assertEqual(places_in(0), [])
        for base in (2, 3, 4):
            for i in range(base):
                for j in range(base):
                    self.assertEqual(places_in(1 << (WIDTH * i + j)), [(i, j)])

    def test_what_leads_to_a_pattern(self):
        random, pictures = few_pictures(4, 40)
        for picture in pictures:
            for last in (0, 1, 2, 5, None):
                pattern = some_pattern(random, picture[0][0], picture[0][1][:1])
                few = few_letters(picture, last)
                living = LivingPatches(few, pattern, last)
                patches = Patches(few, min(len(pattern), 2), min(len(pattern[0]), 2), False)
                patches.unfold_all(last)
                finder = Finder(patches, pattern)
                numbers = [[int(finder.begins_in(patch)) for patch in patches.nodes]]
                told = [[int(bool(places)) for places in living.places]]
                for _ in range(3 if last is None else last):
                    numbers.append([sum(numbers[-1][child] for child in row) for row in patches.children])
                    told.append([sum(told[-1][child] for child in row) for row in living.children])
                # All that leads to it is told: so from the picture on as many ways lead to it at each depth.
                wanted = [by_node[0] for by_node in numbers]
                self.assertEqual([by_node[0] if by_node else 0 for by_node in told], wanted)
                for children, spots in zip(living.children, living.spots):
                    self.assertEqual(len(children), len(spots))


class OneLetterTest(unittest.TestCase):
    def test_one_shade_everywhere(self):
        for base in (2, 3, 4):
            for picture in [ring(base, [2]), ring(base, [2, 2]), ring(base, [2] * 8, 5)]:
                for rows in range(1, base + 2):
                    for columns in range(1, base + 2):
                        self.even_told(picture, rows, columns)

    def even_told(self, picture, rows, columns):
        """All functions of patterns, at depths that are told cell by cell, and at great ones."""
        base = picture[0][0]
        own = ((2,) * columns,) * rows
        other = own[:-1] + ((2,) * (columns - 1) + (1,),)
        for depth in list(range({2: 4, 3: 3, 4: 2}[base] + 1)) + [5, 6, 90]:
            side = side_of(base, depth)
            if depth < 5:
                self.assertEqual(patterns_at(picture, depth, rows, columns), patterns_in(picture, depth, rows, columns))
            for pattern in (own, other):
                high, wide = max(0, side - rows + 1), max(0, side - columns + 1)
                if depth < 5:
                    places = pattern_places(picture, depth, pattern)
                    self.assertEqual(pattern_count(picture, depth, pattern), len(places))
                    self.assertEqual(first_place(picture, depth, pattern), places[0] if places else None)
                    self.assertEqual(last_place(picture, depth, pattern), places[-1] if places else None)
                elif pattern == own:
                    self.assertEqual(pattern_count(picture, depth, pattern), high * wide)
                    self.assertEqual(first_place(picture, depth, pattern), (0, 0))
                    self.assertEqual(last_place(picture, depth, pattern), (high - 1, wide - 1))
                    self.assertEqual(patterns_at(picture, depth, rows, columns), [own])
                    self.assertEqual(patterns(picture, rows, columns), [own])
                    self.assertEqual(first_depth(picture, own), min(
                        n for n in range(3) if side_of(base, n) >= max(rows, columns)))
                else:
                    self.assertEqual(pattern_count(picture, depth, pattern), 0)
                    self.assertIsNone(first_place(picture, depth, pattern))
                    self.assertIsNone(last_place(picture, depth, pattern))
                    self.assertIs(comes(picture, pattern), False)
                    self.assertEqual(pattern_rule(picture, pattern), [])

    def test_one_letter_behind_others(self):
        # The letters are alike, or do not come: so the least picture has one letter.
        two = ((2, (3, 3), (((1, 1), (0, 1)), ((0, 0), (1, 0)))), 1)
        self.assertEqual(pattern_count(two, 90, ((3, 3), (3, 3))), (2 ** 90 - 1) ** 2)
        self.assertEqual(last_place(two, 90, ((3,), (3,))), (2 ** 90 - 2, 2 ** 90 - 1))
        self.assertEqual(patterns(two, 2, 1), [((3,), (3,))])
        self.assertEqual([first_depth(two, ((3, 3, 3),)), first_depth(two, ((3,),)), pattern_at(two, 90, ((3, 0),))], [2, 0, False])
        # One letter comes behind another one, so the first sheet is another one than those behind it.
        late = ((2, (0, 1), (((1, 1), (1, 1)), ((1, 1), (1, 1)))), 0)
        self.assertEqual([patterns_at(late, 0, 1, 1), patterns_at(late, 9, 1, 1), patterns(late, 1, 1)],
                         [[((0,),)], [((1,),)], [((0,),), ((1,),)]])
        self.assertEqual([pattern_count(late, 9, ((0,),)), pattern_count(late, 9, ((1,),)), first_depth(late, ((1,),))],
                         [0, 4 ** 9, 1])


class ManyLettersTest(unittest.TestCase):
    def test_books_of_more_letters_than_come(self):
        random, pictures = few_pictures(5, 24)
        for picture in pictures:
            base, shades, blocks = picture[0]
            idle = random.randrange(1, 65 - len(shades))
            more = tuple(tuple(tuple(random.randrange(len(shades) + idle) for _ in range(base)) for _ in range(base))
                         for _ in range(idle))
            wide = ((base, shades + (3,) * idle, blocks + more), picture[1])
            self.assertTrue(len(few_letters(wide, 0)[0][1]) <= max(MOST, len(shades)))
            for depth in (1, 2, 3, 6, 50):
                pattern = some_pattern(random, base, shades)
                for function in (pattern_at, pattern_count, first_place, last_place):
                    self.assertEqual(function(wide, depth, pattern), function(picture, depth, pattern))
                rows, columns = random.randrange(1, base + 2), random.randrange(1, base + 2)
                self.assertEqual(patterns_at(wide, depth, rows, columns), patterns_at(picture, depth, rows, columns))
            self.assertEqual(patterns(wide, 2, 2), patterns(picture, 2, 2))
            self.assertEqual(first_depth(wide, pattern), first_depth(picture, pattern))


if __name__ == "__main__":
    unittest.main()
