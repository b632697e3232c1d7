"""Slanted lines read figure by figure: the places with p * row + q * column equal to k, as one machine of few states.

Behind the highest figures of row, column and k what is left of p * row + q * column and of k is told
by a lead, in sides of the block that is reached: how much further k is than the block. By one more
figure of each it is base times as much, and the figure of k more, less p and q times those of row
and column. A block has no place of the line if its lead is less than what p and q below 0 make
together, nor if it is greater than what those above 0 do: then all of its places are ahead of it.
"""

from everydepth.cells import figures_of, side_of
from everydepth.sums import flow_of

# The shade of what is no cell of a line.
NO_CELL = 4


def ways_of(base, p, q, lead, figure):
    """For each figure of the row the list of the tuples (figure of the column, lead) to which a lead goes."""
    first = lead * base + figure
    return [[(j, first - p * i - q * j) for j in range(base)] for i in range(base)]


class SlantWalk:
    """The letters of a picture with their leads, read from the highest figures on, for a slant at a depth.

    A node is a letter and as many times the number of the letters as its lead is greater than the
    least one. figures are those of k, first is the node of the whole sheet, None if it has no place
    of the slant; nodes of which all places are ahead of it have one lead more, if they are told at all.
    """

    def __init__(self, picture, depth, slant, ahead):
        (self._base, self.shades, self._blocks), letter = picture
        self._p, self._q, k = slant
        self._many = len(self.shades)
        self._low = min(self._p, 0) + min(self._q, 0)
        self._high = max(self._p, 0) + max(self._q, 0)
        self._ahead = ahead
        self.figures = figures_of(self._base, depth, k)
        self.first = self._node(letter, k // side_of(self._base, depth))
        self._rows = {}
        self._flows = {}

    def _node(self, letter, lead):
        if lead < self._low or lead > self._high and not self._ahead:
            return None
        return (min(lead, self._high + 1) - self._low) * self._many + letter

    def told(self, node):
        """The tuple of the lead and the letter of a node."""
        lead, letter = divmod(node, self._many)
        return (lead + self._low, letter)

    def inner_rows(self, figure, node):
        """The list of the rows of the nodes in the block of a node, by a figure of k, without those that are none."""
        key = (figure, node)
        if key not in self._rows:
            lead, letter = self.told(node)
            block = self._blocks[letter]
            if lead > self._high:
                rows = [[node - letter + inner for inner in row] for row in block]
            else:
                rows = []
                for row, line in zip(block, ways_of(self._base, self._p, self._q, lead, figure)):
                    nodes = [self._node(row[j], behind) for j, behind in line]
                    rows.append([inner for inner in nodes if inner is not None])
            self._rows[key] = rows
        return self._rows[key]

    def flow(self, figure, node):
        """The list of the tuples (node, times) of the nodes in the block of a node."""
        key = (figure, node)
        if key not in self._flows:
            self._flows[key] = flow_of([inner for row in self.inner_rows(figure, node) for inner in row])
        return self._flows[key]

    def deeper(self, figure, numbers):
        """For each node how often it comes by one more figure, where that is told for some nodes."""
        found = {}
        for node, times in numbers.items():
            for inner, many in self.flow(figure, node):
                found[inner] = found.get(inner, 0) + times * many
        return found

    def once(self):
        """For the node of the whole sheet, if there is one, that it comes once."""
        return {} if self.first is None else {self.first: 1}

    def of_shade(self, numbers, shade):
        """How many of some nodes are cells of a shade on the slant."""
        found = 0
        for node, times in numbers.items():
            lead, letter = self.told(node)
            if lead == 0 and self.shades[letter] == shade:
                found += times
        return found

    def tables(self, shade):
        """For each depth, from 0 on, for each node that comes there, how many cells of a shade on the slant it has."""
        layers = [self.once()]
        for figure in self.figures:
            layers.append({inner: True for node in layers[-1] for inner, _ in self.flow(figure, node)})
        found = [{node: self.of_shade({node: 1}, shade) for node in layers[-1]}]
        for figure, layer in zip(reversed(self.figures), layers[-2::-1]):
            below = found[-1]
            found.append({
                node: sum([times * below[inner] for inner, times in self.flow(figure, node)]) for node in layer})
        return found


def corner_machine(picture, slope):
    """The letters of a picture on a corner line, with their leads, as a machine; the last node is no cell.

    For the corner line k is 0, so it is one machine for all depths. Leads of which no place comes to
    be on the line are told as no cell.
    """
    (base, shades, blocks), start = picture
    down, right = slope
    many = len(shades)
    leads = list(range(1 - down, right))
    none = many * len(leads)
    found = []
    marks = []
    for lead in leads:
        ways = ways_of(base, right, -down, lead, 0)
        for letter, block in enumerate(blocks):
            nodes = []
            for row, line in zip(block, ways):
                nodes.extend([(behind + down - 1) * many + row[j] if behind in leads else none for j, behind in line])
            found.append(nodes)
            marks.append(shades[letter] if lead == 0 else NO_CELL)
    found.append([none] * (base * base))
    marks.append(NO_CELL)
    return (found, marks, (down - 1) * many + start)
