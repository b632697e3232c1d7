"""Patches: letters that stand next to one another, one or two rows of one or two, and what lies across them.

What has no more rows and columns than a base and one more lies in the unfolding of exactly one
patch of all whose letters it has a cell: it stands across each seam of that patch.
"""

from everydepth.least import fewest

# The shade of what stands around a sheet; it has a letter of its own, the last one, that unfolds into itself alone.
OUTSIDE = -1

# The shapes of patches.
ONE = 0
BESIDE = 1
ABOVE = 2
FOUR = 3

# Of more letters it takes longer to tell what lies across the seams of all of them than to leave out those that are
# alike or do not come.
MOST = 8


class Patches:
    """The patches of a picture that come about, as far as they are unfolded, as one finite machine.

    No patch has more than so many rows and columns, each 1 or 2. first_patches are those of depth 0.
    nodes has the patches by the depths at which they first come, which depths tells; those of depth 0
    are the starts. children has, for each that is unfolded, the nodes that lie in it, one depth deeper,
    and spots for each of these the place, by its number in reading order in the block of the first
    letter, of its own first letter.

    A patch is an integer: one letter; behind the letters two beside one another, then two above one
    another, then four, each told by its letters as the figures of a number.
    """

    def __init__(self, picture, rows, columns, ringed):
        (self.base, shades, blocks), letter = picture
        self.shades = (*shades, OUTSIDE)
        self.letter_blocks = (*blocks, ((len(shades),) * self.base,) * self.base)
        self._wide = columns == 2
        self._high = rows == 2
        self._many = len(self.shades)
        self._pairs = self._many * self._many
        self._beside = self._many
        self._above = self._beside + self._pairs
        self._four = self._above + self._pairs
        self._uppers, self._lowers = self._told_corners() if self._wide and self._high else ([], [])
        self._shape_spots = {}
        self.first_patches = self._told_first(letter, ringed)
        self.nodes = list(self.first_patches)
        self.starts = list(range(len(self.nodes)))
        self.depths = [0] * len(self.nodes)
        self.children = []
        self.spots = []
        self.node_numbers = {node: at for at, node in enumerate(self.nodes)}

    def unfold_all(self, last):
        """Unfolds all patches that come up to a depth, or at any if it is None; those of the depth itself have none."""
        nodes, numbers, depths, children = self.nodes, self.node_numbers, self.depths, self.children
        four, pairs, uppers, lowers = self._four, self._pairs, self._uppers, self._lowers
        four_spots = [self.base * self.base - 1]
        at = len(children)
        while at < len(nodes):
            patch = nodes[at]
            if depths[at] == last:
                children.append([])
                self.spots.append([])
            elif patch < four:
                self.unfold()
            else:
                # Most patches are such ones, and each has one within: so this is done without further calls.
                upper, lower = divmod(patch - four, pairs)
                inner = uppers[upper] + lowers[lower]
                if inner not in numbers:
                    numbers[inner] = len(nodes)
                    nodes.append(inner)
                    depths.append(depths[at] + 1)
                children.append([numbers[inner]])
                self.spots.append(four_spots)
            at += 1

    def unfold(self):
        """Unfolds the first patch that is not yet."""
        nodes, numbers = self.nodes, self.node_numbers
        at = len(self.children)
        shape, inside = self._inside(nodes[at])
        found = [numbers.get(inner) for inner in inside]
        if None in found:
            depth = self.depths[at] + 1
            for place, inner in enumerate(inside):
                if inner not in numbers:
                    numbers[inner] = len(nodes)
                    nodes.append(inner)
                    self.depths.append(depth)
                found[place] = numbers[inner]
        self.children.append(found)
        self.spots.append(self._spots_of(shape))

    def small_insides(self, last):
        """What lies in each patch of less than four letters that comes up to a depth, or at any if it is None.

        That is a tuple of a list and of the list of its spots, both empty at the depth itself.
        """
        found = {patch: ([], []) for patch in self.first_patches}
        ready = self.first_patches
        while ready and last != 0:
            last = None if last is None else last - 1
            layer = []
            for patch in ready:
                shape, inside = self._inside(patch)
                found[patch] = (inside, self._spots_of(shape))
                for inner in inside:
                    if inner < self._four and inner not in found:
                        found[inner] = ([], [])
                        layer.append(inner)
            ready = layer
        return found

    def inside_four(self, patch):
        """The like for a patch of four letters."""
        shape, inside = self._inside(patch)
        return inside, self._spots_of(shape)

    def leading(self, small, goals):
        """Those of small patches, told by small_insides, and of all of four letters, that lead to goals, as keys."""
        alive = self._leading_fours([patch for patch in goals if patch >= self._four])
        ready = []
        before = {patch: [] for patch in small}
        for patch, (inside, _) in small.items():
            leads = patch in goals
            for inner in inside:
                if inner in before:
                    before[inner].append(patch)
                elif inner in alive:
                    leads = True
            if leads:
                alive[patch] = True
                ready.append(patch)
        while ready:
            inner = ready.pop()
            for patch in before[inner]:
                if patch not in alive:
                    alive[patch] = True
                    ready.append(patch)
        return alive

    def _leading_fours(self, goals):
        """The patches of four letters that lead to some such ones, as keys."""
        found = {patch: True for patch in goals}
        if not goals:
            return found
        # For each two letters beside one another all such two of which they come, as the upper ones and as the lower.
        uppers = [[] for _ in self._uppers]
        lowers = [[] for _ in self._lowers]
        for pair, inner in enumerate(self._uppers):
            uppers[(inner - self._four) // self._pairs].append(self._four + pair * self._pairs)
        for pair, inner in enumerate(self._lowers):
            lowers[inner].append(pair)
        ready = list(goals)
        while ready:
            patch = ready.pop()
            upper, lower = divmod(patch - self._four, self._pairs)
            for above in uppers[upper]:
                for below in lowers[lower]:
                    if above + below not in found:
                        found[above + below] = True
                        ready.append(above + below)
        return found

    def all_patches(self):
        """All patches that come at any depth, as keys."""
        found = {patch: True for patch in self.first_patches}
        ready = self.first_patches
        while ready:
            ready = self.add_deeper(found, ready)
        return found

    def patches_at(self, depth):
        """The patches that come at exactly a depth, as keys."""
        found = {patch: True for patch in self.first_patches}
        depths = {}
        done = 0
        while done < depth:
            inner = {}
            ready = self.add_deeper(inner, found)
            done += 1
            # Where all come again there are ever more from there on, each of which is looked at once.
            if all([patch in inner for patch in found]):
                ready = [patch for patch in ready if patch not in found]
                while ready and done < depth:
                    ready = self.add_deeper(inner, ready)
                    done += 1
                return inner
            key = tuple(sorted(ready))
            if key in depths:
                done = depth - (depth - done) % (done - depths[key])
            depths[key] = done
            found = inner
        return found

    def add_deeper(self, found, ready):
        """Adds to some patches, keys, what lies in others, one depth deeper; returns the list of those that are new."""
        four, pairs, uppers, lowers = self._four, self._pairs, self._uppers, self._lowers
        layer = []
        for patch in ready:
            if patch >= four:
                upper, lower = divmod(patch - four, pairs)
                inner = uppers[upper] + lowers[lower]
                if inner not in found:
                    found[inner] = True
                    layer.append(inner)
            else:
                _, inside = self._inside(patch)
                for inner in inside:
                    if inner not in found:
                        found[inner] = True
                        layer.append(inner)
        return layer

    def _told_corners(self):
        """For each two letters beside one another what a patch of four, one depth deeper, has of them.

        Those of the upper two are in the last row of their blocks, those of the lower two in the
        first one: what they are of the integer of the patch.
        """
        many, pairs, four = self._many, self._pairs, self._four
        lefts = [(block[-1][-1] * many * pairs + four, block[0][-1] * many) for block in self.letter_blocks]
        rights = [(block[-1][0] * pairs, block[0][0]) for block in self.letter_blocks]
        uppers = [left + right for left, _ in lefts for right, _ in rights]
        return uppers, [left + right for _, left in lefts for _, right in rights]

    def _told_first(self, letter, ringed):
        """The patches at depth 0: the letter, and if it is ringed those that it has a part of with what is outside."""
        found = [letter]
        if not ringed:
            return found
        out = self._many - 1
        pairs = [out * self._many + letter, letter * self._many + out]
        if self._wide:
            found.extend([self._beside + pair for pair in pairs])
        if self._high:
            found.extend([self._above + pair for pair in pairs])
        if self._wide and self._high:
            beyond = out * self._many + out
            for pair in pairs:
                found.extend([self._four + beyond * self._pairs + pair, self._four + pair * self._pairs + beyond])
        return found

    def halves(self, patch):
        """The tuple of the rows of a patch, each told as a patch of its own: one letter, or two beside one another."""
        if patch < self._above:
            return (patch,)
        if patch < self._four:
            return divmod(patch - self._above, self._many)
        upper, lower = divmod(patch - self._four, self._pairs)
        return (self._beside + upper, self._beside + lower)

    def letters_of(self, half):
        """The tuple of the letters of a row of a patch."""
        if half < self._beside:
            return (half,)
        return divmod(half - self._beside, self._many)

    def shades_of(self, patch):
        """The list of the shades of the letters of a patch in reading order."""
        return [self.shades[letter] for half in self.halves(patch) for letter in self.letters_of(half)]

    def by_rows(self, some):
        """The list of those of some patches that have one row of letters, and what tells those that have two rows.

        That are two tuples, for rows of one letter and of two: the first patch of such a row, and the
        list of the tuples of how much further on the patches of both rows are.
        """
        above, four, many, pairs = self._above, self._four, self._many, self._pairs
        small = [patch for patch in some if patch < four]
        aboves = [divmod(patch - above, many) for patch in small if patch >= above]
        fours = [divmod(patch - four, pairs) for patch in some if patch >= four]
        return [patch for patch in small if patch < above], ((0, aboves), (self._beside, fours))

    def one_row_patches(self, some):
        """The list of those of some patches that have one letter, and of those that have two beside one another."""
        halves = [patch for patch in some if patch < self._above]
        return [half for half in halves if half < self._beside], [half for half in halves if half >= self._beside]

    def with_rows(self, upper, lower):
        """The patch with two rows of letters, each of which is told as a patch of its own."""
        if upper < self._beside:
            return self._above + upper * self._many + lower
        return self._four + (upper - self._beside) * self._pairs + lower - self._beside

    def _inside(self, patch):
        """The shape of a patch, and the list of all that lies in it across its seams, one depth deeper."""
        if patch < self._beside:
            return (ONE, self._in_one(self.letter_blocks[patch]))
        if patch < self._above:
            left, right = divmod(patch - self._beside, self._many)
            return (BESIDE, self._in_beside(self.letter_blocks[left], self.letter_blocks[right]))
        if patch < self._four:
            upper, lower = divmod(patch - self._above, self._many)
            return (ABOVE, self._in_above(self.letter_blocks[upper][-1], self.letter_blocks[lower][0]))
        upper, lower = divmod(patch - self._four, self._pairs)
        return (FOUR, [self._uppers[upper] + self._lowers[lower]])

    def _in_one(self, block):
        many = self._many
        letters = [letter for row in block for letter in row]
        found = letters
        pairs = []
        if self._wide:
            pairs = [one * many + other for row in block for one, other in zip(row, row[1:])]
            found = letters + [self._beside + pair for pair in pairs]
        if self._high:
            # The last row has none below.
            above, four, square = self._above, self._four, self._pairs
            found = found + [above + one * many + other for one, other in zip(letters, letters[self.base:])]
            found.extend([four + one * square + other for one, other in zip(pairs, pairs[self.base - 1:])])
        return found

    def _in_beside(self, left, right):
        pairs = [row[-1] * self._many + other[0] for row, other in zip(left, right)]
        found = [self._beside + pair for pair in pairs]
        if self._high:
            found.extend([self._four + one * self._pairs + other for one, other in zip(pairs, pairs[1:])])
        return found

    def _in_above(self, above, below):
        many = self._many
        found = [self._above + one * many + other for one, other in zip(above, below)]
        if self._wide:
            upper = [one * many + other for one, other in zip(above, above[1:])]
            lower = [one * many + other for one, other in zip(below, below[1:])]
            found.extend([self._four + one * self._pairs + other for one, other in zip(upper, lower)])
        return found

    def _spots_of(self, shape):
        """The spots of what lies in a patch with a shape, in the sequence in which that is told."""
        if shape not in self._shape_spots:
            self._shape_spots[shape] = self._told_spots(shape)
        return self._shape_spots[shape]

    def _told_spots(self, shape):
        base = self.base
        last = base - 1
        if shape == FOUR:
            return [base * base - 1]
        if shape == ABOVE:
            return [last * base + j for j in range(base)] + [last * base + j for j in range(last) if self._wide]
        if shape == BESIDE:
            return [i * base + last for i in range(base)] + [i * base + last for i in range(last) if self._high]
        found = list(range(base * base))
        narrow = [spot for spot in found if spot % base < last]
        if self._wide:
            found.extend(narrow)
        if self._high:
            found.extend(list(range(base * last)))
        if self._wide and self._high:
            found.extend([spot for spot in narrow if spot < base * last])
        return found


def few_letters(picture, last):
    """A picture that is alike, with few letters where that saves time: up to some depth, or at ALL if it is None."""
    return fewest(picture, last if len(picture[0][1]) <= MOST else None)


def patches_of(few, rows, columns, ringed):
    """The patches of a picture of few letters across which what has so many rows and columns may lie."""
    return Patches(few, min(rows, 2), min(columns, 2), ringed)


def explored(picture, rows, columns, ringed, last):
    """The patches of a picture, or of one that is alike, unfolded up to some depth, or at any if it is None."""
    found = patches_of(few_letters(picture, last), rows, columns, ringed)
    found.unfold_all(last)
    return found


def crossing_lines(base, size):
    """The lines at which what has a size may begin in one letter, and those in two letters side by side; two lists.

    It is to lie in their unfolding and across the seam of two.
    """
    behind = base - size + 1
    return list(range(behind)), list(range(max(0, behind), base))
