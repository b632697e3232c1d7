"""What has some rows and columns in the unfoldings of patches, where it lies across all of their seams.

Rows of shades are texts here, with a sign for each shade: they are soon compared and put together,
and stand in the same sequence as the shades. A half is a row of letters of a patch, told as a patch
of its own.
"""

from everydepth.masks import nodes_in
from everydepth.patches import crossing_lines

# One more than the greatest column of a place in a block.
WIDTH = 4

# The signs of the shades, that of what is outside last, and what they stand for.
SIGNS = "0123-"
SHADES = {"0": 0, "1": 1, "2": 2, "3": 3}


class HalfTexts:
    """The texts of the rows of the unfoldings of the halves of patches."""

    def __init__(self, patches):
        self._patches = patches
        self._signs = [SIGNS[shade] for shade in patches.shades]
        self._letter_rows = {}
        self._rows = {}

    def rows_of(self, half):
        """The list of the texts of the rows of a half."""
        if half not in self._rows:
            letters = self._patches.letters_of(half)
            rows = self._rows_of_letter(letters[0])
            if len(letters) == 2:
                rows = [row + other for row, other in zip(rows, self._rows_of_letter(letters[1]))]
            self._rows[half] = rows
        return self._rows[half]

    def _rows_of_letter(self, letter):
        if letter not in self._letter_rows:
            signs = self._signs
            block = self._patches.letter_blocks[letter]
            self._letter_rows[letter] = ["".join([signs[inner] for inner in row]) for row in block]
        return self._letter_rows[letter]


class Windows:
    """All patterns with so many rows and columns in the unfoldings of patches, where they lie across all seams.

    A pattern is told as the text of all of its rows, one behind the other; so is a part of it that
    has some of its rows.
    """

    def __init__(self, patches, rows, columns):
        self._patches = patches
        self._texts = HalfTexts(patches)
        self._many = rows
        self._columns = columns
        self._first_rows = crossing_lines(patches.base, rows)
        self._first_columns = crossing_lines(patches.base, columns)
        self._known_columns = {}
        self._known_parts = {}
        self._row_tuples = {}

    def all_in(self, some):
        """The ascending list of all patterns that some patches have."""
        halves, doubles = self._patches.by_rows(some)
        found = {}
        for half in halves if self._first_rows[0] else []:
            for text, pattern in self._whole_parts(half):
                found[text] = pattern
        for first, told in doubles:
            self._add_crossing(found, first, told)
        return [found[text] for text in sorted(found)]

    def _add_crossing(self, found, first, doubles):
        """Adds all patterns that lie across two halves, which are so much further on than a first one."""
        uppers, lowers = {}, {}
        for upper, lower in doubles:
            if upper not in uppers:
                uppers[upper] = self._upper_parts(first + upper)
            if lower not in lowers:
                lowers[lower] = self._lower_parts(first + lower)
            for (above, rows), (below, rows_below) in zip(uppers[upper], lowers[lower]):
                text = above + below
                if text not in found:
                    found[text] = rows + rows_below

    def _columns_of(self, half):
        """For each column in which a pattern may begin in a half the text of its part of all rows of the half."""
        if half not in self._known_columns:
            rows = self._texts.rows_of(half)
            many = self._columns
            tuples = self._row_tuples
            found = []
            for j in self._first_columns[0 if len(rows[0]) == len(rows) else 1]:
                parts = [row[j:j + many] for row in rows]
                for part in parts:
                    if part not in tuples:
                        tuples[part] = tuple([SHADES[sign] for sign in part])
                found.append("".join(parts))
            self._known_columns[half] = found
        return self._known_columns[half]

    def _whole_parts(self, half):
        """The tuples of a text and its rows of all patterns that lie in a half alone, across its seam."""
        many = self._columns
        told = [(many * i, many * (i + self._many)) for i in self._first_rows[0]]
        return self._parts([column[first:behind] for column in self._columns_of(half) for first, behind in told])

    def _upper_parts(self, half):
        """The like of the parts of patterns that begin in a half and go on in one below it, in all such places."""
        firsts = [self._columns * i for i in self._first_rows[1]]
        return self._parts([column[first:] for column in self._columns_of(half) for first in firsts])

    def _lower_parts(self, half):
        """The like of those that begin in one above a half and go on in it, in the same sequence."""
        behinds = [self._columns * (i + self._many - self._patches.base) for i in self._first_rows[1]]
        return self._parts([column[:behind] for column in self._columns_of(half) for behind in behinds])

    def _parts(self, texts):
        """For each of some texts the tuple of it and of its rows of shades."""
        known = self._known_parts
        many = self._columns
        tuples = self._row_tuples
        for text in texts:
            if text not in known:
                rows = [tuples[text[first:first + many]] for first in range(0, len(text), many)]
                known[text] = (text, tuple(rows))
        return [known[text] for text in texts]


class Finder:
    """The places at which a pattern begins in the unfoldings of patches.

    A set of places (i, j) is an integer, with a bit for each: that with the number WIDTH * i + j.
    """

    def __init__(self, patches, pattern):
        self._patches = patches
        self._half_texts = HalfTexts(patches)
        self._base = patches.base
        self._texts = ["".join([SIGNS[shade] for shade in row]) for row in pattern]
        # The places in the rows in which the pattern may begin and not leave a half.
        self._whole = (1 << (WIDTH * max(0, self._base - len(pattern) + 1))) - 1
        # In two letters side by side the pattern is to lie across their seam.
        self._least_column = max(0, self._base - len(pattern[0]) + 1)
        self._known_places = {}

    def begins_in(self, patch):
        """Whether the pattern begins somewhere in a patch."""
        halves = self._patches.halves(patch)
        whole, upper, _ = self._places_in(halves[0])
        if len(halves) == 1:
            return whole > 0
        if upper == 0:
            return False
        _, _, lower = self._places_in(halves[1])
        return upper & lower > 0

    def all_places(self, some, known):
        """For each patch with halves among some patches in which the pattern begins somewhere the set of the places.

        Only those that are keys of known are told, unless that is None.
        """
        found = {}
        for told in self._patches.one_row_patches(some):
            uppers, lowers = [], []
            for half in told:
                whole, upper, lower = self._places_in(half)
                if whole > 0:
                    found[half] = whole
                if upper > 0:
                    uppers.append((half, upper))
                if lower > 0:
                    lowers.append((half, lower))
            # What stands above one another has rows of as many letters.
            for half, upper in uppers:
                for below, lower in lowers:
                    if upper & lower:
                        patch = self._patches.with_rows(half, below)
                        if known is None or patch in known:
                            found[patch] = upper & lower
        return found

    def _places_in(self, half):
        """The places at which the pattern begins in a half, and at which it may as far as the upper half of two tells.

        The third is the set of those at which it may as far as the lower half of two tells.
        """
        if half not in self._known_places:
            rows = self._half_texts.rows_of(half)
            begins = 0
            for i, row in enumerate(rows):
                if self._texts[0] in row:
                    begins = begins | (self._columns_along(0, rows[i:]) << (WIDTH * i))
            lower = 0
            for first, text in enumerate(self._texts[1:], 1):
                if text in rows[0]:
                    lower = lower | (self._columns_along(first, rows) << (WIDTH * (self._base - first)))
            self._known_places[half] = (begins & self._whole, begins & ~self._whole, lower)
        return self._known_places[half]

    def _columns_along(self, first, rows):
        """The columns in which the rows of the pattern, from one on, begin in some rows, as far as these go."""
        columns = -1
        for text, row in zip(self._texts[first:], rows):
            columns = columns & columns_of(text, row, self._base, self._least_column)
            if columns == 0:
                break
        return columns


def columns_of(text, row, base, first):
    """The set of the columns of a block in which a text begins in a row, of two blocks from a first column on."""
    found = 0
    at = row.find(text) if len(row) == base else row.find(text, first)
    while 0 <= at < base:
        found = found | (1 << at)
        at = row.find(text, at + 1)
    return found


def places_in(places):
    """The list of the places (i, j) of a set."""
    return [divmod(place, WIDTH) for place in nodes_in(places)]
