"""Two sheets of one depth, one of them moved: both letters at a place, told figure by figure.

The figures of a row, and those of the row over which it lies, differ by the figures of the move
and by carries: a figure, one of the move and a carry from the lower figures together are a figure
of the other row, and the base more if a carry goes to the higher figures.
"""

from everydepth.figures import Level
from everydepth.masks import nodes_in
from everydepth.sums import flow_of


class Overlay:
    """The letters of two pictures that lie over one another, with the carries that are to come from their figures.

    A node is the number of a letter of the one, one of the other, a carry of the row and one of the
    column, these of two each. A key tells of one figure, for the row and for the column, that of
    the move and whether a carry may come from the lower ones. size is the number of all nodes.
    """

    def __init__(self, one, other):
        self.base = one[0][0]
        self._shades = (one[0][1], other[0][1])
        self._many = len(other[0][1])
        self.size = 4 * self._many * len(one[0][1])
        self._first = 4 * self._many * one[1]
        self._start = self._first + 4 * other[1]
        self._blocks = blocks_times(one[0][2], 4 * self._many)
        self._other_blocks = blocks_times(other[0][2], 4)
        self._levels = {}

    def start(self, row_carry, column_carry):
        """The node of the letters of both pictures with two carries."""
        return self._start + 2 * row_carry + column_carry

    def node_over(self, letter, carries):
        """The node of the letter of the one over a letter of the other, with the number of a pair of carries."""
        return self._first + 4 * letter + carries

    def both_shades(self, node):
        """The tuple of the shades of both letters of a node."""
        letter, other_letter = divmod(node // 4, self._many)
        return (self._shades[0][letter], self._shades[1][other_letter])

    def is_end(self, node):
        """Whether a node may stand behind the lowest figures: no carry comes from there."""
        return node % 4 == 0

    def unlike(self, nodes):
        """The set of those of some nodes that may stand behind the lowest figures and have unlike shades."""
        found = 0
        for node in nodes_in(nodes):
            one, other = self.both_shades(node)
            if self.is_end(node) and one != other:
                found = found | (1 << node)
        return found

    def level(self, key, nodes):
        """The level of a key, filled in for a set of nodes."""
        if key not in self._levels:
            self._levels[key] = (Level(self.base), ways_of_key(self.base, key))
        level, ways = self._levels[key]
        for node in nodes_in(nodes & ~level.filled):
            level.fill(node, self._cells(ways, node))
        return level

    def levels(self, keys, nodes):
        """The levels of some keys, one behind the other, filled in for all that comes behind a set of nodes."""
        found = []
        for key in keys:
            found.append(self.level(key, nodes))
            nodes = found[-1].behind(nodes)
        return found

    def numbers(self, keys, starts):
        """For each node how often it comes behind the figures of some keys."""
        numbers = [0] * self.size
        for start in starts:
            numbers[start] = 1
        ways = {key: ways_of_key(self.base, key) for key in keys}
        flows = {key: {} for key in ways}
        # Where a key leads is put together if it is asked again and again, as for the upper figures of small moves.
        often = {key: keys.count(key) > 2 for key in ways}
        for key in keys:
            if often[key]:
                numbers = self._behind_often(ways[key], flows[key], numbers)
            else:
                numbers = self._behind_once(ways[key], numbers)
        return numbers

    def _behind_once(self, ways, numbers):
        found = [0] * self.size
        for node, times in enumerate(numbers):
            if times > 0:
                for child in self._children(ways, node):
                    found[child] += times
        return found

    def _behind_often(self, ways, flows, numbers):
        found = [0] * self.size
        for node, times in enumerate(numbers):
            if times > 0:
                if node not in flows:
                    flows[node] = once_and_often(flow_of(self._children(ways, node)))
                once, often = flows[node]
                for child in once:
                    found[child] += times
                for child, many in often:
                    found[child] += times * many
        return found

    def _parts(self, node):
        """The tuple of both blocks of a node and the number of its pair of carries."""
        pairs, carries = divmod(node, 4)
        letter, other_letter = divmod(pairs, self._many)
        return self._blocks[letter], self._other_blocks[other_letter], carries

    def _children(self, ways, node):
        block, other_block, carries = self._parts(node)
        found = []
        for i, other_i, columns in ways[carries]:
            row = block[i]
            other_row = other_block[other_i]
            found.extend([row[j] + other_row[other_j] + carries_below for j, other_j, carries_below in columns])
        return found

    def _cells(self, ways, node):
        block, other_block, carries = self._parts(node)
        cells = [0] * (self.base * self.base)
        for i, other_i, columns in ways[carries]:
            row = block[i]
            other_row = other_block[other_i]
            first = i * self.base
            for j, other_j, carries_below in columns:
                cells[first + j] = cells[first + j] | (1 << (row[j] + other_row[other_j] + carries_below))
        return cells


def once_and_often(flow):
    """Of the tuples (child, times) of a flow the list of the children that come once, and the list of the others."""
    return [child for child, times in flow if times == 1], [(child, times) for child, times in flow if times > 1]


def blocks_times(blocks, many):
    """The blocks with each letter so many times."""
    return [[[letter * many for letter in row] for row in block] for block in blocks]


def ways_of_key(base, key):
    """For each of the four pairs of carries of a node the list of its rows, each with its columns.

    They are tuples (figure, other figure, columns) and (figure, other figure, both carries from below).
    """
    found = []
    for row_carry in (0, 1):
        for column_carry in (0, 1):
            columns = ways_over(base, key[1], column_carry)
            rows = []
            for own, other, below in ways_over(base, key[0], row_carry):
                rows.append((own, other, [(j, other_j, 2 * below + carry) for j, other_j, carry in columns]))
            found.append(rows)
    return found


def ways_over(base, figure, carry):
    """The list of the tuples (figure, other figure, carry from below) by which a carry goes to the higher figures."""
    moved, may_carry = figure
    found = []
    for below in (0, 1) if may_carry else (0,):
        for own in range(base):
            other = own + moved + below - carry * base
            if 0 <= other < base:
                found.append((own, other, below))
    return found


def move_keys(base, depth, move):
    """The keys of all figures, from the highest on, of a move, or of what is left of it modulo the side."""
    axes = []
    for moved in move:
        axis = []
        carries = False
        for _ in range(depth):
            axis.append((moved % base, carries))
            carries = carries or moved % base > 0
            moved = moved // base
        axis.reverse()
        axes.append(axis)
    return list(zip(axes[0], axes[1]))
