"""The first and the last place at which a patch, with what lies in it, has something."""

from everydepth.linemasks import LineMasks, all_figures, number_of_figures
from everydepth.masks import nodes_in, united


class PatchLines(LineMasks):
    """The rows of the blocks of patches, with their children and spots, as one machine, and the cells in them."""

    def __init__(self, patches):
        base = patches.base
        LineMasks.__init__(self, base, None)
        self._patches = patches
        self._cells = {}
        self._ends = {}
        for i in range(base):
            self._masks[i] = []
        self._spans = []
        bits = [1 << node for node in range(len(patches.children))]
        for bit, spots, children in zip(bits, patches.spots, patches.children):
            rows = [0] * base
            for spot, child in zip(spots, children):
                rows[spot // base] = rows[spot // base] | bits[child]
            span = 0
            for i, row in enumerate(rows):
                if row > 0:
                    self._masks[i].append((bit, row))
                    span = span | row
            self._spans.append((bit, span))

    def _cells_of(self, node):
        """For each place of the block of a patch the set of the patches there."""
        if node not in self._cells:
            found = [0] * (self.base * self.base)
            for spot, child in zip(self._patches.spots[node], self._patches.children[node]):
                found[spot] = found[spot] | (1 << child)
            self._cells[node] = found
        return self._cells[node]

    def end_cell(self, nodes, i, goals, last):
        """The first figure of the column, or the last one, by which some patches have goals, and the set of these."""
        key = (nodes, i, goals, last)
        if key not in self._ends:
            cells = [self._cells_of(node) for node in nodes_in(nodes)]
            for j in all_figures(self.base, last):
                found = united([own[i * self.base + j] for own in cells]) & goals
                if found:
                    break
            self._ends[key] = (j, found)
        return self._ends[key]


def end_place_in(lines, places, depth, last):
    """The tuple (row, column) of the first place, or of the last one, in the sheet of a depth, or None.

    places has for each patch the list of the places (i, j), by one more figure each, of what is asked for.
    """
    goals = sum([1 << node for node, told in enumerate(places) if told])
    layers = lines.with_goals(goals, depth)
    if not layers[-1] & 1:
        return None
    rows, goals = lines.end_figures(1, layers, last)
    members = nodes_in(goals)
    lowest = end_of([i for node in members for i, _ in places[node]], last)
    goals = sum([1 << node for node in members if lowest in [i for i, _ in places[node]]])
    columns = []
    nodes = 1
    ahead = None
    for i, goals in zip(rows, lines.on_line(goals, rows)[-2::-1]):
        if (nodes, i, goals) != ahead:
            ahead = (nodes, i, goals)
            j, inner = lines.end_cell(nodes, i, goals, last)
        columns.append(j)
        nodes = inner
    if not rows:
        nodes = goals
    columns.append(end_of([j for node in nodes_in(nodes) for i, j in places[node] if i == lowest], last))
    return (number_of_figures(lines.base, rows + [lowest]), number_of_figures(lines.base, columns))


def end_of(numbers, last):
    """The least of some numbers, or the greatest one."""
    return max(numbers) if last else min(numbers)
