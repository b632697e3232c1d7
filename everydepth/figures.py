"""Places told figure by figure: the first and the last place at which a machine ends in one of its goals.

The machine reads the figures of a row and of a column at once, from the highest on, and may go on
to several nodes. Sets of nodes are integers, with a bit for each node.
"""

from everydepth.masks import nodes_in, united


class Level:
    """Where a machine goes by one figure of the row and of the column.

    For each of the nodes that are filled in, of which filled is the set, it has the sets of nodes at
    the places of its block. What was asked once is kept: great depths ask the same again and again.
    """

    def __init__(self, base):
        self.base = base
        self.filled = 0
        self._cells = {}
        self._rows = {}
        self._spans = {}
        self._known = {}

    def fill(self, node, cells):
        """Tells the sets of nodes to which it goes from a node by the places of its block, in reading order."""
        rows = []
        span = 0
        for first in range(0, len(cells), self.base):
            row = 0
            for cell in cells[first:first + self.base]:
                row = row | cell
            rows.append(row)
            span = span | row
        self._cells[node] = cells
        self._rows[node] = rows
        self._spans[node] = span
        self._known = {}
        self.filled = self.filled | (1 << node)

    def behind(self, nodes):
        """The nodes to which it goes from some nodes by any figures."""
        if nodes not in self._known:
            self._known[nodes] = united([self._spans[node] for node in nodes_in(nodes)])
        return self._known[nodes]

    def ahead(self, nodes, goals):
        """Those of some nodes from which it goes to one of the goals."""
        key = (nodes, goals)
        if key not in self._known:
            self._known[key] = united([1 << node for node in nodes_in(nodes) if self._spans[node] & goals])
        return self._known[key]

    def ahead_by_row(self, nodes, goals, i):
        """Those of some nodes from which it goes to one of the goals by a figure of the row."""
        key = (nodes, goals, i)
        if key not in self._known:
            self._known[key] = united([1 << node for node in nodes_in(nodes) if self._rows[node][i] & goals])
        return self._known[key]

    def end_row(self, nodes, goals, last):
        """The first figure of the row, or the last one, by which it goes to a goal, and the goals to which it does."""
        key = ("row", nodes, goals, last)
        if key not in self._known:
            ways = [self._rows[node] for node in nodes_in(nodes)]
            self._known[key] = end_figure(ways, range_of(0, self.base, last), goals)
        return self._known[key]

    def end_place(self, nodes, goals, i, last):
        """The like for the figure of the column, where that of the row is told."""
        key = (nodes, goals, i, last)
        if key not in self._known:
            ways = [self._cells[node] for node in nodes_in(nodes)]
            place, found = end_figure(ways, range_of(i * self.base, self.base, last), goals)
            self._known[key] = (place - i * self.base, found)
        return self._known[key]


def range_of(first, many, last):
    """The list of so many integers from the first on, backwards if the last one is asked for."""
    found = list(range(first, first + many))
    if last:
        found.reverse()
    return found


def end_figure(ways, figures, goals):
    """The first of the figures by which one of the ways, lists of sets, has goals, and these; some have."""
    for figure in figures:
        found = united([way[figure] for way in ways]) & goals
        if found > 0:
            return figure, found
    return None


def reached(levels, starts):
    """The list of the sets of nodes that come behind so many levels, from 0 on."""
    layers = [starts]
    for level in levels:
        layers.append(level.behind(layers[-1]))
    return layers


def leading(levels, starts, goals):
    """The like, without the nodes that do not lead to a goal behind the last level."""
    layers = reached(levels, starts)
    layers[-1] = layers[-1] & goals
    for at in reversed(range(len(levels))):
        layers[at] = levels[at].ahead(layers[at], layers[at + 1])
    return layers


def end_place(levels, starts, goals, last):
    """The tuple (row, column) of the first place in reading order that ends in a goal, or of the last; else None."""
    layers = leading(levels, starts, goals)
    if layers[0] == 0:
        return None
    figures = row_figures(levels, layers, last)
    for at in reversed(range(len(levels))):
        layers[at] = levels[at].ahead_by_row(layers[at], layers[at + 1], figures[at])
    row = 0
    column = 0
    for at, level in enumerate(levels):
        j, layers[at + 1] = level.end_place(layers[at], layers[at + 1], figures[at], last)
        row = row * level.base + figures[at]
        column = column * level.base + j
    return (row, column)


def row_figures(levels, layers, last):
    """The figures of the first row with a goal, or of the last; of each layer the nodes in this row are left."""
    figures = []
    for at, level in enumerate(levels):
        i, layers[at + 1] = level.end_row(layers[at], layers[at + 1], last)
        figures.append(i)
    return figures
