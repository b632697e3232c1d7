"""Two sheets of one depth, one of them moved: both letters at a place, told figure by figure.

The figures of a row, and those of the row over which it lies, differ by the figures of the move
and by carries: a figure, one of the move and a carry from the lower figures together are a figure
of the other row, and the base more if a carry goes to the higher figures.
"""

from everydepth.adding import Sources
from everydepth.figures import Level
from everydepth.masks import nodes_in

# The pairs of a carry of the row and one of the column: their number is twice the one and the other.
CARRIES = 4

# Up to so many figures, and while few nodes come, it is not worth while to put together those that lead to each pair.
FEW_FIGURES = 6

# Behind so many figures of one kind, with many more to come, the sources of all carries are put together; where only
# few nodes come, the others are left out.
LONG_RUN = 8


class Overlay:
    """The letters of two pictures that lie over one another, with the carries that are to come from their figures.

    A node is the number of a letter of the one, one of the other, a carry of the row and one of the
    column, these of two each. A key tells of one figure, for the row and for the column, that of
    the move and whether a carry may come from the lower ones. size is the number of all nodes.
    """

    def __init__(self, one, other):
        self.base = one[0][0]
        self._shades = (one[0][1], other[0][1])
        self._many = len(other[0][1])
        self.size = 4 * self._many * len(one[0][1])
        self._first = 4 * self._many * one[1]
        self._start = self._first + 4 * other[1]
        self._letter_blocks = one[0][2]
        self._other_letter_blocks = other[0][2]
        self._blocks = blocks_times(one[0][2], 4 * self._many)
        self._other_blocks = blocks_times(other[0][2], 4)
        self._levels = {}
        self._sources = {}
        self._key_sources = {}
        self._known_ways = {}

    def start(self, carries):
        """The node of the letters of both pictures with the number of a pair of carries."""
        return self._start + carries

    def node_over(self, letter, carries):
        """The node of the letter of the one over a letter of the other, with the number of a pair of carries."""
        return self._first + 4 * letter + carries

    def both_shades(self, node):
        """The tuple of the shades of both letters of a node."""
        letter, other_letter = divmod(node // 4, self._many)
        return (self._shades[0][letter], self._shades[1][other_letter])

    def is_end(self, node):
        """Whether a node may stand behind the lowest figures: no carry comes from there."""
        return node % 4 == 0

    def unlike(self, nodes):
        """The set of those of some nodes that may stand behind the lowest figures and have unlike shades."""
        found = 0
        for node in nodes_in(nodes):
            one, other = self.both_shades(node)
            if self.is_end(node) and one != other:
                found = found | (1 << node)
        return found

    def level(self, key, nodes):
        """The level of a key, filled in for a set of nodes."""
        if key not in self._levels:
            self._levels[key] = Level(self.base)
        level = self._levels[key]
        for node in nodes_in(nodes & ~level.filled):
            level.fill(node, self._cells_at(self._ways(key), node))
        return level

    def _ways(self, key):
        if key not in self._known_ways:
            self._known_ways[key] = ways_of_key(self.base, key)
        return self._known_ways[key]

    def levels(self, keys, nodes):
        """The levels of some keys, one behind the other, filled in for all that comes behind a set of nodes."""
        found = []
        for key in keys:
            found.append(self.level(key, nodes))
            nodes = found[-1].behind(nodes)
        return found

    def numbers(self, keys, carries):
        """For each pair of letters how often it comes behind the figures of some keys, from some pairs of carries on.

        A pair is the letter of the one as many times as the other has letters, and that of the other.
        """
        pairs = self.size // CARRIES
        numbers = [0] * self.size
        for carry in carries:
            numbers[carry * pairs + self._start // CARRIES] = 1
        few = len(keys) <= FEW_FIGURES
        for key, many in runs_of(keys):
            sources = None
            for done in range(many):
                # Where few nodes come, these are followed; else those that lead to it are put together for each pair.
                if few or few_come(numbers, 3):
                    numbers = self._pushed(key, numbers)
                    continue
                if done == LONG_RUN and many > 3 * LONG_RUN:
                    sources = self._run_sources(key, numbers)
                elif sources is None:
                    sources = self._sources_of_key(key)
                behind = []
                for below, first in sources:
                    behind.extend(below.sums(numbers[first:] if first > 0 else numbers))
                numbers = behind
        return numbers[:pairs]

    def _pushed(self, key, numbers):
        many = self._many
        pairs = self.size // CARRIES
        ways = self._ways(key)
        found = [0] * self.size
        for at, times in enumerate(numbers):
            if times > 0:
                carry, pair = divmod(at, pairs)
                letter, other_letter = divmod(pair, many)
                block, other_block = self._letter_blocks[letter], self._other_letter_blocks[other_letter]
                for i, other_i, columns in ways[carry]:
                    row = block[i]
                    other_row = other_block[other_i]
                    for j, other_j, carries_below in columns:
                        found[carries_below * pairs + row[j] * many + other_row[other_j]] += times
        return found

    def _sources_of_key(self, key):
        """For each pair of carries the tuple of the sources of all pairs, by a key, and their first place.

        Where a figure with its carry is the base, what leads to a pair stands as many places further as where it is 0.
        """
        if key not in self._key_sources:
            self._key_sources[key] = self._told_sources(key)
        return self._key_sources[key]

    def _told_sources(self, key):
        pairs = self.size // CARRIES
        found = []
        for figures in figures_below(key):
            first = 0
            if figures is not None:
                down, right = figures
                first = (2 * (down // self.base) + right // self.base) * pairs
                figures = (down % self.base, right % self.base)
            if figures not in self._sources:
                self._sources[figures] = Sources(self._places(figures))
            found.append((self._sources[figures], first))
        return found

    def _run_sources(self, key, numbers):
        """The like in one, for many figures of one key that are behind some numbers."""
        places = [terms for figures in figures_below(key) for terms in self._places(figures)]
        if few_come(numbers, 2):
            places = living_places(places, numbers)
        return [(Sources(places), 0)]

    def _places(self, figures):
        """For each pair the places, in the list of numbers, of the nodes that lead to it.

        figures are those of the move, each with the carry from below, None if there is no such carry.
        """
        pairs = self.size // CARRIES
        if figures is None:
            return [[] for _ in range(pairs)]
        rows = [[[] for _ in range(self._many)] for _ in range(pairs // self._many)]
        for i in range(self.base):
            row_carry, other_i = divmod(i + figures[0], self.base)
            for j in range(self.base):
                column_carry, other_j = divmod(j + figures[1], self.base)
                letters = [block[i][j] for block in self._letter_blocks]
                others = [block[other_i][other_j] for block in self._other_letter_blocks]
                add_places(rows, (2 * row_carry + column_carry) * pairs, letters, others)
        return [places for row in rows for places in row]

    def _parts(self, node):
        """The tuple of both blocks of a node and the number of its pair of carries."""
        pairs, carries = divmod(node, 4)
        letter, other_letter = divmod(pairs, self._many)
        return self._blocks[letter], self._other_blocks[other_letter], carries

    def _children(self, ways, node):
        block, other_block, carries = self._parts(node)
        found = []
        for i, other_i, columns in ways[carries]:
            row = block[i]
            other_row = other_block[other_i]
            found.extend([row[j] + other_row[other_j] + carries_below for j, other_j, carries_below in columns])
        return found

    def _cells_at(self, ways, node):
        block, other_block, carries = self._parts(node)
        cells = [0] * (self.base * self.base)
        for i, other_i, columns in ways[carries]:
            row = block[i]
            other_row = other_block[other_i]
            first = i * self.base
            for j, other_j, carries_below in columns:
                cells[first + j] = cells[first + j] | (1 << (row[j] + other_row[other_j] + carries_below))
        return cells


def runs_of(keys):
    """The list of the tuples (key, many) of the runs of one key in a list of keys."""
    found = []
    first = 0
    for at in range(1, len(keys) + 1):
        if at == len(keys) or keys[at] != keys[first]:
            found.append((keys[first], at - first))
            first = at
    return found


def few_come(numbers, part):
    """Whether less than one of so many numbers is not 0."""
    return not all(numbers) and (len(numbers) - numbers.count(0)) * part < len(numbers)


def figures_below(key):
    """For each pair of carries the tuple of both figures of a key with these carries from below, None if none comes."""
    (down, row_carries), (right, column_carries) = key
    found = []
    for row_carry in (0, 1):
        for column_carry in (0, 1):
            if row_carry <= row_carries and column_carry <= column_carries:
                found.append((down + row_carry, right + column_carry))
            else:
                found.append(None)
    return found


def add_places(rows, place, letters, others):
    """Adds to each pair of letters the places, from the first on with one pair of carries, of what leads to it."""
    for letter in letters:
        row = rows[letter]
        for other in others:
            row[other].append(place)
            place += 1


def living_places(places, numbers):
    """The places without those of nodes that never come behind some numbers, while the figures stay the same."""
    alive = [number > 0 for number in numbers]
    before = 0
    while before < alive.count(True):
        before = alive.count(True)
        alive = [own or any([alive[place] for place in terms]) for own, terms in zip(alive, places)]
    return [[place for place in terms if alive[place]] for terms in places]


def blocks_times(blocks, many):
    """The blocks with each letter so many times."""
    return [[[letter * many for letter in row] for row in block] for block in blocks]


def ways_of_key(base, key):
    """For each of the four pairs of carries of a node the list of its rows, each with its columns.

    They are tuples (figure, other figure, columns) and (figure, other figure, both carries from below).
    """
    found = []
    for row_carry in (0, 1):
        for column_carry in (0, 1):
            columns = ways_over(base, key[1], column_carry)
            rows = []
            for own, other, below in ways_over(base, key[0], row_carry):
                rows.append((own, other, [(j, other_j, 2 * below + carry) for j, other_j, carry in columns]))
            found.append(rows)
    return found


def ways_over(base, figure, carry):
    """The list of the tuples (figure, other figure, carry from below) by which a carry goes to the higher figures."""
    moved, may_carry = figure
    found = []
    for below in (0, 1) if may_carry else (0,):
        for own in range(base):
            other = own + moved + below - carry * base
            if 0 <= other < base:
                found.append((own, other, below))
    return found


def move_keys(base, depth, move):
    """The keys of all figures, from the highest on, of a move, or of what is left of it modulo the side."""
    axes = []
    for moved in move:
        axis = []
        carries = False
        for _ in range(depth):
            axis.append((moved % base, carries))
            carries = carries or moved % base > 0
            moved = moved // base
        axis.reverse()
        axes.append(axis)
    return list(zip(axes[0], axes[1]))
