"""Patches: letters that stand next to one another, one or two rows of one or two, and what lies across them.

What has no more rows and columns than a base and one more lies in the unfolding of exactly one
patch of all whose letters it has a cell: it stands across each seam of that patch.
"""

from everydepth.least import fewest

# Stands around a sheet, and unfolds into itself alone. So it is the place of its block, too: the last one.
OUTSIDE = -1


class Patches:
    """The patches of a picture that come about up to some depth, or at any if it is None, as one finite machine.

    The letters may be those of another picture that is alike. No patch has more than so many rows
    and columns, each 1 or 2. nodes has the patches, tuples of rows of letters, by the depths at
    which they first come, which depths tells; those of depth 0 are the starts. steps has for each,
    but for those that first come at the last depth, the tuples (place, child): the place, by its
    number in reading order in the block of the first letter of the patch, of the first letter of
    the child.
    """

    def __init__(self, picture, rows, columns, ringed, last):
        book, letter = fewest(picture, last)
        self.base, self.shades, blocks = book
        self.rows = rows
        self.columns = columns
        self._blocks = blocks + (((OUTSIDE,) * self.base,) * self.base,)
        self._shaded = {}
        self.nodes = first_patches(letter, rows, columns, ringed)
        self.starts = list(range(len(self.nodes)))
        self.depths = [0] * len(self.nodes)
        self.steps = []
        self._explore(last)

    def _explore(self, last):
        nodes = self.nodes
        numbers = {node: at for at, node in enumerate(nodes)}
        while len(self.steps) < len(nodes):
            depth = self.depths[len(self.steps)]
            steps = []
            inner = [] if depth == last else self._children(nodes[len(self.steps)])
            for place, child in inner:
                if child not in numbers:
                    numbers[child] = len(nodes)
                    nodes.append(child)
                    self.depths.append(depth + 1)
                steps.append((place, numbers[child]))
            self.steps.append(steps)

    def _children(self, patch):
        blocks = [self._blocks[letter] for row in patch for letter in row]
        if len(blocks) == 4:
            return in_four(blocks, self.base)
        if len(blocks) == 1:
            return in_one(blocks[0], self.base, self.rows, self.columns)
        if len(patch) == 1:
            return in_two_columns(blocks[0], blocks[1], self.base, self.rows)
        return in_two_rows(blocks[0], blocks[1], self.base, self.columns)

    def unfolded_shades(self, patch):
        """The list of the rows, tuples of shades, of all blocks of a patch without what is outside."""
        rows = []
        for letters in patch:
            if letters not in self._shaded:
                self._shaded[letters] = self._shaded_rows(letters)
            rows = rows + self._shaded[letters]
        return rows

    def _shaded_rows(self, letters):
        rows = []
        for i in range(self.base):
            row = [inner for letter in letters for inner in self._blocks[letter][i]]
            rows.append(tuple([self.shades[inner] for inner in row]))
        return rows

    def children(self):
        """For each patch the list of those in it at one more depth."""
        return [[child for place, child in steps] for steps in self.steps]


def first_patches(letter, rows, columns, ringed):
    """The patches at depth 0: the letter, and if it is ringed those that it has a part of with what is outside."""
    found = [((letter,),)]
    if ringed and columns == 2:
        found.extend([((OUTSIDE, letter),), ((letter, OUTSIDE),)])
    if ringed and rows == 2:
        found.extend([((OUTSIDE,), (letter,)), ((letter,), (OUTSIDE,))])
    if ringed and rows == 2 and columns == 2:
        beyond = (OUTSIDE, OUTSIDE)
        for row in ((OUTSIDE, letter), (letter, OUTSIDE)):
            found.extend([(beyond, row), (row, beyond)])
    return found


# The lists of the tuples (place, patch) of all patches that lie in a patch, one deeper, and across its seams.


def in_one(block, base, rows, columns):
    """Those in the block of one letter."""
    found = []
    for i, row in enumerate(block):
        pairs = list(zip(row, row[1:])) if columns == 2 else []
        found.extend([(i * base + j, ((letter,),)) for j, letter in enumerate(row)])
        found.extend([(i * base + j, (pair,)) for j, pair in enumerate(pairs)])
        if rows == 2 and i + 1 < base:
            below = block[i + 1]
            found.extend([(i * base + j, ((letter,), (below[j],))) for j, letter in enumerate(row)])
            found.extend([(i * base + j, (pair, below[j:j + 2])) for j, pair in enumerate(pairs)])
    return found


def in_two_columns(left, right, base, rows):
    """Those across the seam of a left and a right block."""
    last = base - 1
    pairs = [(row[last], other[0]) for row, other in zip(left, right)]
    found = [(i * base + last, (pair,)) for i, pair in enumerate(pairs)]
    if rows == 2:
        found.extend([(i * base + last, (pairs[i], pairs[i + 1])) for i in range(last)])
    return found


def in_two_rows(upper, lower, base, columns):
    """Those across the seam of an upper and a lower block."""
    first = (base - 1) * base
    above, below = upper[base - 1], lower[0]
    found = [(first + j, ((above[j],), (below[j],))) for j in range(base)]
    if columns == 2:
        found.extend([(first + j, (above[j:j + 2], below[j:j + 2])) for j in range(base - 1)])
    return found


def in_four(blocks, base):
    """The one across both seams of four blocks."""
    last = base - 1
    row = (blocks[0][last][last], blocks[1][last][0])
    return [(last * base + last, (row, (blocks[2][0][last], blocks[3][0][0])))]


def crossing(base, patch, rows, columns):
    """The list of the places (i, j) at which what has so many rows and columns may begin in a patch.

    It is to lie in the unfolding of the patch and across each of its seams.
    """
    found = []
    for i in crossing_lines(base, len(patch), rows):
        found.extend([(i, j) for j in crossing_lines(base, len(patch[0]), columns)])
    return found


def crossing_lines(base, patch, size):
    """The list of the lines at which what has a size may begin in one or two letters side by side."""
    if patch == 1:
        return list(range(base - size + 1))
    return list(range(max(0, base - size + 1), base))
