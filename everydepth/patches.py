"""Patches: letters that stand next to one another, one or two rows of one or two, and what lies across them.

What has no more rows and columns than a base and one more lies in the unfolding of exactly one
patch of all whose letters it has a cell: it stands across each seam of that patch.
"""

from everydepth.least import fewest

# The shade of what stands around a sheet; it has a letter of its own, the last one, that unfolds into itself alone.
OUTSIDE = -1

# The shapes of patches of less than four letters.
ONE = 0
BESIDE = 1
ABOVE = 2


class Patches:
    """The patches of a picture that come about, as far as they are unfolded, as one finite machine.

    No patch has more than so many rows and columns, each 1 or 2. nodes has the patches by the depths
    at which they first come, which depths tells; those of depth 0 are the starts. children has, for
    each that is unfolded, the nodes that lie in it, one depth deeper, and spots for each of these the
    place, by its number in reading order in the block of the first letter, of its own first letter.

    A patch is an integer: one letter; behind the letters two beside one another, then two above one
    another, then four, each told by its letters as the figures of a number.
    """

    def __init__(self, picture, rows, columns, ringed):
        (self.base, shades, blocks), letter = picture
        self.shades = (*shades, OUTSIDE)
        self.letter_blocks = (*blocks, ((len(shades),) * self.base,) * self.base)
        self._wide = columns == 2
        self._high = rows == 2
        self._many = len(self.shades)
        self._pairs = self._many * self._many
        self._beside = self._many
        self._above = self._beside + self._pairs
        self._four = self._above + self._pairs
        self._seams = {}
        self._shape_spots = {}
        self._four_spots = [self.base * self.base - 1]
        self.nodes = self._first_patches(letter, ringed)
        self.starts = list(range(len(self.nodes)))
        self.depths = [0] * len(self.nodes)
        self.children = []
        self.spots = []
        self.node_numbers = {node: at for at, node in enumerate(self.nodes)}

    def unfold_all(self, last):
        """Unfolds all patches that come up to a depth, or at any if it is None; those of the depth itself have none."""
        while len(self.children) < len(self.nodes):
            at = len(self.children)
            if self.depths[at] == last:
                self.children.append([])
                self.spots.append([])
            elif self.nodes[at] < self._four:
                self.unfold()
            else:
                self._unfold_fours(at, last)

    def all_patches(self):
        """The list of all patches that come at any depth."""
        found = list(self.nodes)
        seen = {patch: True for patch in found}
        four, pairs, seams = self._four, self._pairs, self._seams
        at = 0
        while at < len(found):
            patch = found[at]
            at += 1
            if patch < four:
                _, patches = self._inside(patch)
                for inner in patches:
                    if inner not in seen:
                        seen[inner] = True
                        found.append(inner)
            else:
                upper, lower = divmod(patch - four, pairs)
                if upper in seams and lower in seams:
                    inner = four + seams[upper][0] + seams[lower][1]
                else:
                    inner = self._inner_four(patch)
                if inner not in seen:
                    seen[inner] = True
                    found.append(inner)
        return found

    def unfold(self):
        """Unfolds the first patch that is not yet."""
        at = len(self.children)
        patch = self.nodes[at]
        depth = self.depths[at] + 1
        if patch >= self._four:
            self.spots.append(self._four_spots)
            self.children.append([self._number(self._inner_four(patch), depth)])
            return
        shape, patches = self._inside(patch)
        if shape not in self._shape_spots:
            self._shape_spots[shape] = self._told_spots(shape)
        self.spots.append(self._shape_spots[shape])
        found = [self.node_numbers.get(inner) for inner in patches]
        if None in found:
            for place, inner in enumerate(patches):
                if found[place] is None:
                    found[place] = self._number(inner, depth)
        self.children.append(found)

    def _unfold_fours(self, at, last):
        """Unfolds patches of four letters from a node on, as long as there are such ones ahead of a depth."""
        # Most patches are such ones, and each has one within: so this is done without further calls.
        nodes, numbers, depths, seams = self.nodes, self.node_numbers, self.depths, self._seams
        four, pairs = self._four, self._pairs
        while at < len(nodes) and nodes[at] >= four and depths[at] != last:
            upper, lower = divmod(nodes[at] - four, pairs)
            if upper in seams and lower in seams:
                inner = four + seams[upper][0] + seams[lower][1]
            else:
                inner = self._inner_four(nodes[at])
            if inner not in numbers:
                numbers[inner] = len(nodes)
                nodes.append(inner)
                depths.append(depths[at] + 1)
            self.children.append([numbers[inner]])
            self.spots.append(self._four_spots)
            at += 1

    def _inner_four(self, patch):
        """The patch across the seams of four letters, one depth deeper."""
        upper, lower = divmod(patch - self._four, self._pairs)
        for pair in (upper, lower):
            if pair not in self._seams:
                self._tell_seams(pair)
        return self._four + self._seams[upper][0] + self._seams[lower][1]

    def _number(self, patch, depth):
        """The number of the node of a patch, which is a new one if it comes for the first time."""
        if patch not in self.node_numbers:
            self.node_numbers[patch] = len(self.nodes)
            self.nodes.append(patch)
            self.depths.append(depth)
        return self.node_numbers[patch]

    def _tell_seams(self, pair):
        """Tells the pairs of letters at the seam of two blocks beside one another, in their last row and in the first.

        They are told as what they are of four letters, the one above, the other one below.
        """
        left, right = [self.letter_blocks[letter] for letter in divmod(pair, self._many)]
        above = (left[-1][-1] * self._many + right[-1][0]) * self._pairs
        self._seams[pair] = (above, left[0][-1] * self._many + right[0][0])

    def _first_patches(self, letter, ringed):
        """The patches at depth 0: the letter, and if it is ringed those that it has a part of with what is outside."""
        found = [letter]
        if not ringed:
            return found
        out = self._many - 1
        pairs = [out * self._many + letter, letter * self._many + out]
        if self._wide:
            found.extend([self._beside + pair for pair in pairs])
        if self._high:
            found.extend([self._above + pair for pair in pairs])
        if self._wide and self._high:
            beyond = out * self._many + out
            for pair in pairs:
                found.extend([self._four + beyond * self._pairs + pair, self._four + pair * self._pairs + beyond])
        return found

    def halves(self, patch):
        """The tuple of the rows of a patch, each told as a patch of its own: one letter, or two beside one another."""
        if patch < self._above:
            return (patch,)
        if patch < self._four:
            return divmod(patch - self._above, self._many)
        upper, lower = divmod(patch - self._four, self._pairs)
        return (self._beside + upper, self._beside + lower)

    def letters_of(self, half):
        """The tuple of the letters of a row of a patch."""
        if half < self._beside:
            return (half,)
        return divmod(half - self._beside, self._many)

    def shades_of(self, patch):
        """The list of the shades of the letters of a patch in reading order."""
        return [self.shades[letter] for half in self.halves(patch) for letter in self.letters_of(half)]

    def by_rows(self, some):
        """The list of those of some patches that have one row of letters, and that of the tuples of two rows."""
        above, four, many, pairs, beside = self._above, self._four, self._many, self._pairs, self._beside
        found = [divmod(patch - above, many) for patch in some if above <= patch < four]
        fours = [divmod(patch - four, pairs) for patch in some if patch >= four]
        found.extend([(beside + upper, beside + lower) for upper, lower in fours])
        return [patch for patch in some if patch < above], found

    def one_row_patches(self):
        """The list of the patches of one letter, and that of those of two letters beside one another."""
        singles = [patch for patch in self.nodes if patch < self._beside]
        return singles, [patch for patch in self.nodes if self._beside <= patch < self._above]

    def with_rows(self, upper, lower):
        """The patch with two rows of letters, each of which is told as a patch of its own."""
        if upper < self._beside:
            return self._above + upper * self._many + lower
        return self._four + (upper - self._beside) * self._pairs + lower - self._beside

    def _inside(self, patch):
        """The shape of a patch of less than four letters, and the list of all that lies in it across its seams."""
        if patch >= self._above:
            upper, lower = divmod(patch - self._above, self._many)
            return (ABOVE, self._in_above(self.letter_blocks[upper][-1], self.letter_blocks[lower][0]))
        if patch >= self._beside:
            left, right = divmod(patch - self._beside, self._many)
            return (BESIDE, self._in_beside(self.letter_blocks[left], self.letter_blocks[right]))
        return (ONE, self._in_one(self.letter_blocks[patch]))

    def _in_one(self, block):
        many = self._many
        found = [letter for row in block for letter in row]
        pairs = []
        if self._wide:
            pairs = [[one * many + other for one, other in zip(row, row[1:])] for row in block]
            found.extend([self._beside + pair for row in pairs for pair in row])
        if self._high:
            # The last row has none below.
            above = [self._above + letter * many for letter in found[:self.base * (self.base - 1)]]
            found.extend([one + other for one, other in zip(above, found[self.base:self.base * self.base])])
            four, square = self._four, self._pairs
            for row, below in zip(pairs, pairs[1:]):
                found.extend([four + one * square + other for one, other in zip(row, below)])
        return found

    def _in_beside(self, left, right):
        pairs = [row[-1] * self._many + other[0] for row, other in zip(left, right)]
        found = [self._beside + pair for pair in pairs]
        if self._high:
            found.extend([self._four + one * self._pairs + other for one, other in zip(pairs, pairs[1:])])
        return found

    def _in_above(self, above, below):
        many = self._many
        found = [self._above + one * many + other for one, other in zip(above, below)]
        if self._wide:
            upper = [one * many + other for one, other in zip(above, above[1:])]
            lower = [one * many + other for one, other in zip(below, below[1:])]
            found.extend([self._four + one * self._pairs + other for one, other in zip(upper, lower)])
        return found

    def _told_spots(self, shape):
        """The spots of what lies in a patch with a shape, in the sequence in which that is told."""
        base = self.base
        last = base - 1
        if shape == ABOVE:
            return [last * base + j for j in range(base)] + [last * base + j for j in range(last) if self._wide]
        if shape == BESIDE:
            return [i * base + last for i in range(base)] + [i * base + last for i in range(last) if self._high]
        found = list(range(base * base))
        narrow = [spot for spot in found if spot % base < last]
        if self._wide:
            found.extend(narrow)
        if self._high:
            found.extend(list(range(base * last)))
        if self._wide and self._high:
            found.extend([spot for spot in narrow if spot < base * last])
        return found


def explored(picture, rows, columns, ringed, last):
    """The patches of a picture, or of one that is alike, up to some depth, or at any if it is None."""
    found = Patches(fewest(picture, last), rows, columns, ringed)
    found.unfold_all(last)
    return found


def crossing_lines(base, size):
    """The lines at which what has a size may begin in one letter, and those in two letters side by side; two lists.

    It is to lie in their unfolding and across the seam of two.
    """
    behind = base - size + 1
    return list(range(behind)), list(range(max(0, behind), base))
