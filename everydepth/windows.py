"""What has some rows and columns in the unfoldings of patches, where it lies across all of their seams."""

from everydepth.masks import nodes_in
from everydepth.patches import crossing_lines

# One more than the greatest column of a place in a block.
WIDTH = 4

# The signs of the shades, that of what is outside last.
SIGNS = "0123-"

# So many bits tell a shade.
BITS = 2


class Windows:
    """All patterns with so many rows and columns in the unfoldings of patches, where they lie across all seams.

    A pattern is told as an integer, with BITS bits for each shade, those of the first one the highest;
    so are some of its rows. A half is a row of letters of a patch, told as a patch of its own.
    """

    def __init__(self, patches, rows, columns):
        self._patches = patches
        self._many = rows
        self._width = BITS * columns
        self._first_rows = crossing_lines(patches.base, rows)
        # By how many bits the rows of one letter, and those of two, are to be moved for each column.
        firsts = crossing_lines(patches.base, columns)
        self._shifts = [
            [BITS * (letters * patches.base - columns - j) for j in firsts[letters - 1]] for letters in (1, 2)]
        self._row_numbers = {}
        self._halves = {}

    def all_in(self, some):
        """The ascending list of all patterns that some patches have."""
        singles, doubles = self._patches.by_rows(some)
        found = {}
        for half in singles:
            for number in self._whole_numbers(half):
                found[number] = True
        known = self._halves
        for upper, lower in doubles:
            if upper not in known:
                known[upper] = self._half_numbers(upper)
            if lower not in known:
                known[lower] = self._half_numbers(lower)
            for number, below in zip(known[upper][0], known[lower][1]):
                found[number + below] = True
        return self._told(sorted(found))

    def _told(self, numbers):
        """The list of the patterns that are told by some integers."""
        width = self._width
        places = [width * row for row in reversed(range(self._many))]
        mask = (1 << width) - 1
        rows = {}
        found = []
        for number in numbers:
            parts = [(number >> place) & mask for place in places]
            for part in parts:
                if part not in rows:
                    rows[part] = tuple([(part >> place) & 3 for place in range(width - BITS, -1, -BITS)])
            found.append(tuple([rows[part] for part in parts]))
        return found

    def _whole_numbers(self, half):
        """All patterns that lie in the unfolding of a half alone, across its seam."""
        found = []
        rows = self._parts(half) if self._first_rows[0] else []
        for i in self._first_rows[0]:
            numbers = rows[i]
            for row in rows[i + 1:i + self._many]:
                numbers = [(above << self._width) + number for above, number in zip(numbers, row)]
            found.extend(numbers)
        return found

    def _half_numbers(self, half):
        """What a half has of patterns that begin in it as the upper one, and of those as the lower one.

        Both lists have the same places, one behind the other, at which a pattern may begin; what
        belongs to the upper half is moved to the front.
        """
        width = self._width
        base = self._patches.base
        rows = self._parts(half)
        uppers, lowers = [], []
        # A pattern that begins one row later has one row less in the upper half, and one more in the lower one.
        below = [0] * len(rows[0])
        for at in range(len(self._first_rows[1])):
            below = [(number << width) + part for number, part in zip(below, rows[at])]
            lowers.append(below)
        above = [0] * len(rows[0])
        for i in reversed(self._first_rows[1]):
            above = [(part << (width * (base - 1 - i))) + number for number, part in zip(above, rows[i])]
            uppers.append([number << (width * (i + self._many - base)) for number in above])
        uppers.reverse()
        return [[number for row in numbers for number in row] for numbers in (uppers, lowers)]

    def _parts(self, half):
        """For each row of the unfolding of a half its parts, by the columns in which a pattern may begin."""
        letters = self._patches.letters_of(half)
        numbers = self._numbers_of(letters[0])
        if len(letters) == 2:
            more = BITS * self._patches.base
            numbers = [(left << more) + right for left, right in zip(numbers, self._numbers_of(letters[1]))]
        mask = (1 << self._width) - 1
        shifts = self._shifts[len(letters) - 1]
        return [[(number >> shift) & mask for shift in shifts] for number in numbers]

    def _numbers_of(self, letter):
        """The rows of the block of a letter, each as one number."""
        if letter not in self._row_numbers:
            shades = self._patches.shades
            found = []
            for row in self._patches.letter_blocks[letter]:
                number = 0
                for inner in row:
                    number = (number << BITS) + shades[inner]
                found.append(number)
            self._row_numbers[letter] = found
        return self._row_numbers[letter]


class Finder:
    """The places at which a pattern begins in the unfoldings of patches.

    A set of places (i, j) is an integer, with a bit for each: that with the number WIDTH * i + j. Rows
    of shades are texts here, which are soon compared.
    """

    def __init__(self, patches, pattern):
        base = patches.base
        self._patches = patches
        self._texts = ["".join([SIGNS[shade] for shade in row]) for row in pattern]
        self._signs = [SIGNS[shade] for shade in patches.shades]
        self._rows = {}
        self._told_letters = {}
        self._begins = {}
        self._first_rows = crossing_lines(base, len(pattern))
        self._first_columns = crossing_lines(base, len(pattern[0]))

    def begins_in(self, patch):
        """Whether the pattern begins somewhere in a patch."""
        halves = self._patches.halves(patch)
        found = self._upper_places(halves[0], len(halves))
        if found and len(halves) == 2:
            found = found & self._lower_places(halves[1])
        return found > 0

    def all_places(self):
        """For each node of the patches at which the pattern begins somewhere the list of the places."""
        numbers = self._patches.node_numbers
        singles, pairs = self._patches.one_row_patches()
        found = {}
        for half in singles + pairs:
            places = self._upper_places(half, 1)
            if places:
                found[numbers[half]] = places
        if len(self._texts) > 1:
            # What stands above one another has rows of as many letters.
            for told in (singles, pairs):
                lowers = [(half, self._lower_places(half)) for half in told]
                for upper in told:
                    places = self._upper_places(upper, 2)
                    for lower in [half for half, below in lowers if places & below]:
                        patch = self._patches.with_rows(upper, lower)
                        if patch in numbers:
                            found[numbers[patch]] = places & self._lower_places(lower)
        return {node: [divmod(place, WIDTH) for place in nodes_in(places)] for node, places in found.items()}

    def _upper_places(self, half, many):
        """The places at which the pattern may begin, as far as the first of so many halves tells."""
        key = (half, many)
        if key not in self._begins:
            rows, columns = self._text_rows(half)
            found = 0
            for i in self._first_rows[many - 1]:
                if self._texts[0] in rows[i]:
                    # Of two halves the first one has as many of the rows as are left in it.
                    found = found | places_of(rows[i:], self._texts, columns, WIDTH * i)
            self._begins[key] = found
        return self._begins[key]

    def _lower_places(self, half):
        """The places at which the pattern may begin, as far as the lower half of two tells."""
        key = (half, 0)
        if key not in self._begins:
            rows, columns = self._text_rows(half)
            found = 0
            for i in self._first_rows[1]:
                if self._texts[len(rows) - i] in rows[0]:
                    found = found | places_of(rows, self._texts[len(rows) - i:], columns, WIDTH * i)
            self._begins[key] = found
        return self._begins[key]

    def _text_rows(self, half):
        """The list of the rows of the unfolding of a half, and that of the columns in which the pattern may begin."""
        if half not in self._rows:
            letters = self._patches.letters_of(half)
            rows = self._letter_rows(letters[0])
            if len(letters) == 2:
                rows = [row + other for row, other in zip(rows, self._letter_rows(letters[1]))]
            self._rows[half] = (rows, self._first_columns[len(letters) - 1])
        return self._rows[half]

    def _letter_rows(self, letter):
        if letter not in self._told_letters:
            signs = self._signs
            block = self._patches.letter_blocks[letter]
            self._told_letters[letter] = ["".join([signs[inner] for inner in row]) for row in block]
        return self._told_letters[letter]


def places_of(rows, texts, columns, first):
    """The places, from the first one of a row on, in some columns at which texts begin in rows, one in each."""
    found = 0
    for j in columns:
        if rows[0].startswith(texts[0], j):
            told = [row.startswith(text, j) for row, text in zip(rows, texts)]
            if all(told):
                found = found | (1 << (first + j))
    return found
