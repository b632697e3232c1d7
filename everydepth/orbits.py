"""Which letters, or pairs of letters, come at exactly one depth: the sets of them go round, from depth to depth."""

from everydepth.masks import nodes_in, united
from everydepth.walks import last_reached, pair_blocks

# The sets of few letters, and of few pairs, go round far ahead of so many depths.
MOST_SETS = 1000


class Orbit:
    """The sets of nodes that come at the depths from 0 on, where each node tells which nodes come of it."""

    def __init__(self, start):
        self._start = start
        self._inner = {}

    def inner(self, node):
        """The set of the nodes that come of a node."""
        return 1 << node

    def at(self, depth):
        """The set at a depth."""
        sets, first = self._sets(depth + 1)
        if depth < len(sets):
            return sets[depth]
        if first is None:
            return self._far(depth)
        return sets[first + (depth - first) % (len(sets) - first)]

    def last_with(self, goals):
        """The greatest depth at which one of some nodes comes, -1 if they never do, None if there is no greatest."""
        sets, first = self._sets(MOST_SETS)
        if first is None:
            return self._last_by_nodes(goals)
        depths = [depth for depth, nodes in enumerate(sets) if nodes & goals]
        if depths and depths[-1] >= first:
            return None
        return max(depths, default=-1)

    def _sets(self, many):
        """The list of so many sets, or of MOST_SETS or of all, and the place to which they go back, if they do."""
        sets = [1 << self._start]
        places = {sets[0]: 0}
        while len(sets) < min(many, MOST_SETS):
            nodes = self._behind(sets[-1])
            if nodes in places:
                return sets, places[nodes]
            places[nodes] = len(sets)
            sets.append(nodes)
        return sets, None

    def _behind(self, nodes):
        found = 0
        for node in nodes_in(nodes):
            if node not in self._inner:
                self._inner[node] = self.inner(node)
            found = found | self._inner[node]
        return found

    def _all(self):
        """The list of all nodes, the start first."""
        nodes = [self._start]
        seen = {self._start: True}
        done = 0
        while done < len(nodes):
            for node in nodes_in(self.inner(nodes[done])):
                if node not in seen:
                    seen[node] = True
                    nodes.append(node)
            done += 1
        return nodes

    def _far(self, depth):
        # The sets go round late, so ways of twice the length are told by those of one length, again and again.
        ways = {node: self.inner(node) for node in self._all()}
        found = 1 << self._start
        while depth > 0:
            if depth % 2 == 1:
                found = united([ways[node] for node in nodes_in(found)])
            depth = depth // 2
            ways = {node: united([ways[inner] for inner in nodes_in(way)]) for node, way in ways.items()}
        return found

    def _last_by_nodes(self, goals):
        nodes = self._all()
        numbers = {node: number for number, node in enumerate(nodes)}
        told = [number for number, node in enumerate(nodes) if (goals >> node) & 1]
        if not told:
            return -1
        return last_reached([[numbers[inner] for inner in nodes_in(self.inner(node))] for node in nodes], told)


class LetterOrbit(Orbit):
    """The sets of the letters of a picture."""

    def __init__(self, picture):
        Orbit.__init__(self, picture[1])
        self._blocks = picture[0][2]

    def inner(self, node):
        """The set of the letters in the block of a letter."""
        found = 0
        for row in self._blocks[node]:
            for letter in row:
                found = found | (1 << letter)
        return found


class PairOrbit(Orbit):
    """The sets of the pairs of letters of two pictures that stand at one cell.

    A pair is the letter of the one as many times as the other has letters, and that of the other.
    """

    def __init__(self, one, other):
        self._many = len(other[0][1])
        Orbit.__init__(self, one[1] * self._many + other[1])
        self._ones, self._others = pair_blocks(one, other)

    def inner(self, node):
        """The set of the pairs in the blocks of a pair."""
        letter, other_letter = divmod(node, self._many)
        found = 0
        for a, b in zip(self._ones[letter], self._others[other_letter]):
            found = found | (1 << (a + b))
        return found


def unlike_pairs(one, other):
    """The set of all pairs of letters, as a PairOrbit has them, with unlike shades."""
    many = len(other[0][1])
    others = {}
    found = 0
    for letter, shade in enumerate(one[0][1]):
        if shade not in others:
            others[shade] = united([1 << b for b, other_shade in enumerate(other[0][1]) if other_shade != shade])
        found = found | (others[shade] << (letter * many))
    return found
