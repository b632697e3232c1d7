import unittest
from random import Random

from everydepth.alike import parting
from everydepth.errors import InvalidDepth, InvalidPlace, InvalidTerm, TooMany, Unlike
from everydepth.formulas import is_term, made, same_terms, shade_of, terms_part
from everydepth.least import is_least, least
from everydepth.pictures import is_picture
from tests.helper import PromiseCase
from tests.model import BOTH, CARPET, OTHER, PARITY, STAIRS, made_picture, ring, shade_sheet
from tests.model_terms import base_of_term, depth_of, inner_terms, made_term, size_of, term_sheet, wrong_terms

DEPTHS = {2: 4, 3: 3, 4: 2}
STAIRS_TERM = ("picture", STAIRS)
CARPET_TERM = ("picture", CARPET)
BLANK = ("map", (0, 0, 0, 0), STAIRS_TERM)
SAME = (0, 1, 2, 3)
WRONG = wrong_terms(STAIRS_TERM, CARPET_TERM)


def made_terms(seed, many, deep=6):
    random = Random(seed)
    return [made_term(random, random.randrange(2, 5), random.randrange(1, deep + 1), [26]) for _ in range(many)]


class TermsTest(PromiseCase):
    def test_examples(self):
        self.assertEqual(
            [same_terms(("block", 1, ((STAIRS_TERM, BLANK), (STAIRS_TERM, STAIRS_TERM))), STAIRS_TERM),
             same_terms(("part", 1, 1, STAIRS_TERM), ("turn", 5, STAIRS_TERM)),
             shade_of(("turn", 1, STAIRS_TERM), 1, 1, 1), made(BLANK)],
            [True, True, 0, ((2, (0,), (((0, 0), (0, 0)),)), 0)])

    def test_cells(self):
        words = set()
        for term in made_terms(1, 250):
            self.assertIs(is_term(term), True)
            self.assertLessEqual(size_of(term), 30)
            try:
                found = made(term)
            except TooMany:
                found = None
            for depth in range(DEPTHS[base_of_term(term)]):
                rows = term_sheet(term, depth)
                if found is not None:
                    self.assertEqual(shade_sheet(found, depth), rows)
                for row, column in {(0, 0), (len(rows) - 1, 0), (len(rows) // 2, len(rows) - 1), (0, len(rows) // 3)}:
                    self.assertEqual(shade_of(term, depth, row, column), rows[row][column])
            if found is not None:
                self.assertIs(is_picture(found) and is_least(found), True)
            words.add((term[0], depth_of(term) > 3))
        self.assertTrue({(word, deep) for word in ("put", "map", "turn", "part") for deep in (True, False)} <= words)
        self.assertIn(("block", False), words)

    def test_each_word_by_hand(self):
        self.assertEqual(made(STAIRS_TERM), STAIRS)
        self.assertEqual(made(("picture", ring(2, [1] * 4))), ring(2, [1]))
        self.assertEqual(made(("put", PARITY, STAIRS_TERM, STAIRS_TERM)), ring(2, [0]))
        self.assertEqual(made(("turn", 1, STAIRS_TERM)), OTHER if OTHER[0][2][0] == ((0, 0), (0, 1)) else None)
        self.assertEqual(made(("part", 0, 1, STAIRS_TERM)), ring(2, [0]))
        self.assertEqual(made(("block", 3, ((STAIRS_TERM, BLANK), (BLANK, BLANK)))),
                         ((2, (3, 1, 0), (((1, 2), (2, 2)), ((1, 2), (1, 1)), ((2, 2), (2, 2)))), 0))

    def test_blocks_at_depth_0_and_below(self):
        term = ("block", 3, ((STAIRS_TERM, BLANK), (BLANK, ("block", 2, ((STAIRS_TERM, BLANK), (BLANK, BLANK))))))
        self.assertEqual(term_sheet(term, 0), [[3]])
        self.assertEqual(term_sheet(term, 1), [[1, 0], [0, 2]])
        self.assertEqual([shade_of(term, 0, 0, 0), shade_of(term, 1, 1, 1), shade_of(term, 2, 2, 2)], [3, 2, 1])
        self.assertEqual(shade_of(("part", 1, 1, term), 0, 0, 0), 2)

    def test_turns_bring_places(self):
        for turn in range(8):
            term = ("turn", turn, ("picture", made_picture(Random(turn), 3, 4)))
            rows = term_sheet(term, 2)
            for row in range(9):
                self.assertEqual([shade_of(term, 2, row, column) for column in range(9)], rows[row])

    def test_great_depths(self):
        term = ("turn", 2, ("put", PARITY, STAIRS_TERM, ("part", 0, 0, ("turn", 2, STAIRS_TERM))))
        side = 2 ** 90
        for row, column in [(0, 0), (side - 1, side - 1), (side // 3, side // 5), (0, side - 1)]:
            self.assertEqual(shade_of(term, 90, row, column), shade_of(("picture", made(term)), 90, row, column))
        deep = ("part", 1, 0, ("part", 1, 1, ("part", 0, 1, CARPET_TERM)))
        self.assertEqual(shade_of(deep, 90, 3 ** 90 - 1, 5), 0)

    def test_thirty_terms_and_six_deep(self):
        term = STAIRS_TERM
        for turn in (1, 3, 4, 4, 0):
            term = ("turn", turn, term)
        self.assertEqual(depth_of(term), 6)
        self.assertIs(same_terms(term, STAIRS_TERM), True)
        self.assertEqual(made(term), STAIRS)
        zero = ("picture", ring(2, [0]))
        twice = ("map", SAME, ("map", SAME, STAIRS_TERM))
        seven = ("block", 1, ((twice, zero), (STAIRS_TERM, STAIRS_TERM)))
        six = ("block", 1, ((STAIRS_TERM, zero), (STAIRS_TERM, ("turn", 0, STAIRS_TERM))))
        wide = ("put", BOTH, ("put", BOTH, seven, six), ("put", BOTH, seven, seven))
        self.assertEqual([size_of(wide), depth_of(wide)], [30, 6])
        self.assertIs(is_term(wide), True)
        self.assertEqual(made(wide), STAIRS)
        self.assertIsNone(terms_part(wide, term))
        self.assertEqual([shade_of(wide, 90, row, 2 ** 89) for row in (0, 2 ** 89)], [0, 1])

    def test_is_term(self):
        for value in WRONG:
            self.assertIs(is_term(value), False, value)
        for inner in (STAIRS_TERM, CARPET_TERM):
            for term in [inner, ("put", PARITY, inner, inner), ("map", SAME, inner), ("turn", 7, inner),
                         ("part", 1, 1, inner)]:
                self.assertIs(is_term(term), True)
        nested = STAIRS_TERM
        for _ in range(45):
            nested = ("map", SAME, nested)
        self.assertIs(is_term(nested), True)

    def test_equality_of_an_object_plays_no_part(self):
        class Any:
            def __eq__(self, other):
                return True

            def __hash__(self):
                return hash("picture")
        for value in [Any(), (Any(), STAIRS), ("turn", Any(), STAIRS_TERM), ("part", Any(), 0, STAIRS_TERM)]:
            self.assertIs(is_term(value), False)


class SameTermsTest(PromiseCase):
    def test_same_and_parting(self):
        found = set()
        terms = made_terms(2, 120, 4) + [STAIRS_TERM, BLANK]
        for at, one in enumerate(terms):
            base = base_of_term(one)
            for other in [term for term in terms[at:at + 6] if base_of_term(term) == base] + [("map", SAME, one)]:
                try:
                    told = terms_part(one, other)
                except TooMany:
                    continue
                self.assertIs(same_terms(one, other), told is None)
                self.assertEqual(told, parting(made(one), made(other)))
                for depth in range(DEPTHS[base]):
                    rows, lines = term_sheet(one, depth), term_sheet(other, depth)
                    first = [(depth, r, c) for r in range(len(rows)) for c in range(len(rows))
                             if rows[r][c] != lines[r][c]][:1]
                    if first:
                        self.assertEqual(told, first[0])
                        break
                    self.assertTrue(told is None or told[0] > depth)
                found.add(told and told[0])
        self.assertTrue({None, 0, 1, 2} <= found)

    def test_terms_that_part_late(self):
        one, other = ("picture", ring(2, [0, 0, 0, 1])), ("picture", ring(2, [0, 0, 1]))
        never = ("picture", ring(2, [0]))
        # Both have shade 1 at the same depth for the first time at depth 11.
        self.assertEqual(terms_part(("put", BOTH, one, other), never), (11, 0, 0))
        self.assertIs(same_terms(("put", BOTH, one, other), never), False)
        term = never
        for _ in range(4):
            term = ("block", 0, ((term, term), (("picture", ring(2, [0, 0, 0, 1])), term)))
        self.assertEqual(terms_part(term, never), (4, 8, 0))

    def test_facts_of_parts_and_blocks(self):
        for term in made_terms(3, 40, 3):
            base = base_of_term(term)
            try:
                made(term)
            except TooMany:
                continue
            rows = tuple(tuple(("part", i, j, term) for j in range(base)) for i in range(base))
            whole = ("block", shade_of(term, 0, 0, 0), rows)
            self.assertIs(same_terms(whole, term), True)
            self.assertIsNone(terms_part(term, whole))


class TooManyTest(PromiseCase):
    def test_rings_put_together(self):
        # Both have shade 1 at the depths that 12 divides.
        term = ("put", BOTH, ("picture", ring(2, [1, 0, 0, 0])), ("picture", ring(2, [1, 0, 0])))
        self.assertEqual(made(term), ring(2, [1] + [0] * 11))

    def test_blocks(self):
        random = Random(12)
        found = set()
        while len(found) < 4:
            puts = []
            while len(puts) < 4:
                put_term = ("put", PARITY) + tuple(("picture", made_picture(random, 2, 4)) for _ in range(2))
                wide = ("put", PARITY, put_term, ("picture", made_picture(random, 2, 3)))
                puts += [wide] if first_wide(wide) is None else []
            term = ("block", 0, (tuple(puts[:2]), tuple(puts[2:])))
            count = first_wide(term)
            if count is None:
                self.assertEqual(len(made(term)[0][1]), letters_in_block(term))
            else:
                self.refused(TooMany, count, made, term)
                self.refused(TooMany, count, made, ("turn", 1, ("part", 0, 0, term)))
                found.add(count)
        self.assertGreater(max(found), 100)

    def test_first_term_within_is_told(self):
        random = Random(11)
        refused = {}
        for _ in range(200):
            base = random.randrange(2, 4)
            term = made_term(random, base, 6, [26])
            try:
                made(term)
                self.assertIsNone(first_wide(term))
            except TooMany as error:
                self.assertEqual(error.value, first_wide(term))
                refused[error.value] = term
                self.refused(TooMany, error.value, made, term)
                self.refused(TooMany, error.value, same_terms, term, term)
                self.refused(TooMany, error.value, terms_part, ("map", SAME, term), term)
                self.assertIn(shade_of(term, 1, 0, 1), range(4))
        self.assertGreater(len(refused), 2)
        # Of two terms the first one is told, also if its number is greater; a map behind it plays no part.
        counts = sorted(refused)
        pairs = [(refused[a], refused[b]) for a in counts for b in counts
                 if a != b and base_of_term(refused[a]) == base_of_term(refused[b])]
        self.assertTrue(pairs)
        for one, other in pairs:
            self.refused(TooMany, first_wide(one), same_terms, one, other)
            self.refused(TooMany, first_wide(one), terms_part, one, other)
            self.refused(TooMany, first_wide(one), made, ("put", ((0,) * 4,) * 4, one, other))
            self.refused(TooMany, first_wide(one), made, ("map", (0, 0, 0, 0), one))


def first_wide(term):
    """The number of letters of the first term within, or the term itself, with more than 64; None if there is none."""
    for inner in inner_terms(term):
        found = first_wide(inner)
        if found is not None:
            return found
    parts = [made(inner) for inner in inner_terms(term)]
    if term[0] == "put":
        count = letters_put(parts[0], parts[1], term[1])
        return count if count > 64 else None
    if term[0] == "block":
        count = letters_in_block(term)
        return count if count > 64 else None
    return None


def letters_in_block(term):
    """How many letters the least picture of a block has, by the least pictures of all letters within."""
    parts = [made(inner) for inner in inner_terms(term)]
    below = {least((part[0], letter)) for part in parts for letter in range(len(part[0][1]))}
    for picture in below:
        block = picture[0][2][0]
        inner = [least((picture[0], letter)) for row in block for letter in row]
        if picture[0][1][0] == term[1] and inner == parts:
            return len(below)
    return len(below) + 1


def letters_put(one, other, table):
    """How many pairs of letters are told apart by what is put together of them, round by round."""
    pairs = [(one[1], other[1])]
    steps = {}
    for pair in pairs:
        if pair not in steps:
            rows = zip(one[0][2][pair[0]], other[0][2][pair[1]])
            steps[pair] = [inner for row, line in rows for inner in zip(row, line)]
            pairs += [inner for inner in steps[pair] if inner not in steps]
    kinds = {(a, b): table[one[0][1][a]][other[0][1][b]] for a, b in steps}
    while True:
        marks = {pair: (kinds[pair],) + tuple(kinds[inner] for inner in steps[pair]) for pair in steps}
        names = {mark: at for at, mark in enumerate(sorted(set(marks.values())))}
        if len(names) == len(set(kinds.values())):
            return len(names)
        kinds = {pair: names[mark] for pair, mark in marks.items()}


class WrongArgumentsTest(PromiseCase):
    def test_terms(self):
        for value in WRONG:
            self.refused(InvalidTerm, value, made, value)
            self.refused(InvalidTerm, value, shade_of, value, -1, 0, 0)
            for function in (same_terms, terms_part):
                self.refused(InvalidTerm, value, function, value, None)
                self.refused(InvalidTerm, value, function, CARPET_TERM, value)

    def test_depths_and_places(self):
        for depth in (-1, -10 ** 30):
            self.refused(InvalidDepth, depth, shade_of, STAIRS_TERM, depth, -1, -1)
        part = ("part", 0, 0, STAIRS_TERM)
        for term, depth, places in [
            (STAIRS_TERM, 0, [(0, 1), (1, 0), (-1, 0), (0, -1)]),
            (part, 2, [(4, 0), (0, 4), (-1, 3), (10 ** 90, 0)]),
            (CARPET_TERM, 90, [(3 ** 90, 0), (0, 3 ** 90)]),
        ]:
            for row, column in places:
                self.refused(InvalidPlace, (row, column), shade_of, term, depth, row, column)

    def test_unlike_bases(self):
        for function in (same_terms, terms_part):
            self.refused(Unlike, 3, function, STAIRS_TERM, CARPET_TERM)
            self.refused(Unlike, 2, function, CARPET_TERM, ("turn", 3, STAIRS_TERM))


if __name__ == "__main__":
    unittest.main()
