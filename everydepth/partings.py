"""Whether two pictures have a pair of letters at one cell that they are not to have, and the first such cell.

What is asked of the letters of two pictures is asked of the nodes of other machines, too, such as
the letters on one line: a machine is a tuple (blocks, shades, start), with the nodes in the block
of each node in reading order, a shade for each node, and the node that stands for the whole.
"""

from everydepth.linemasks import number_of_figures
from everydepth.walks import flat_blocks

# For each pair of shades whether they are unlike; the last one stands for what is no cell.
UNLIKE = (
    (False, True, True, True, True),
    (True, False, True, True, True),
    (True, True, False, True, True),
    (True, True, True, False, True),
    (True, True, True, True, False),
)


def are_alike(one, other):
    """Whether two machines have the same sheets at ALL depths.

    Nodes that are to be alike are put together, so that no more pairs are looked at than both have
    nodes: what is asked of a pair that is together already is asked of others ahead of it.
    """
    blocks, shades, start = one
    other_blocks, other_shades, other_start = other
    many = len(blocks)
    heads = list(range(many + len(other_blocks)))
    ready = [(start, other_start)]
    while ready:
        node, other_node = ready.pop()
        head = head_of(heads, node)
        other_head = head_of(heads, many + other_node)
        if head != other_head:
            if shades[node] != other_shades[other_node]:
                return False
            heads[other_head] = head
            ready.extend(list(zip(blocks[node], other_blocks[other_node])))
    return True


def head_of(heads, node):
    """The one of those put together with a node that stands for them."""
    while heads[node] != node:
        heads[node] = heads[heads[node]]
        node = heads[node]
    return node


def first_barred(one, other, barred):
    """The tuple (depth, row, column) of the least depth and first cell that is barred, None if there is none.

    A cell is barred by barred[s][t], with the shade s of the one and the shade t of the other one there.
    """
    return first_barred_place(machine_of(one), machine_of(other), barred, one[0][0])


def machine_of(picture):
    """The letters of a picture as a machine."""
    return (flat_blocks(picture[0]), picture[0][1], picture[1])


def first_barred_place(one, other, barred, base):
    """The like for two machines; base is the number of places in a row of their blocks, which may have one row."""
    layers = PairLayers(one, other, barred, base)
    if not layers.barred_pairs:
        return None
    return layers.first_cell()


class PairLayers:
    """The pairs of nodes at one cell by the depths at which they first come, up to the first barred ones.

    A pair is the node of the one as many times as the other has nodes, and that of the other.
    On the way to a goal each pair stands at the depth at which it first comes, or the goal would come earlier.
    """

    def __init__(self, one, other, barred, base):
        blocks, self._shades, first = one
        self._other_blocks, self._others, second = other
        self._base = base
        self._many = len(self._others)
        self._barred = barred
        self._blocks = [[node * self._many for node in block] for block in blocks]
        self._inner = {}
        start = first * self._many + second
        self._layers = [[start]]
        self.barred_pairs = self._barred_of([start])
        seen = {start: True}
        while self._layers[-1] and not self.barred_pairs:
            layer = []
            for pair in self._layers[-1]:
                for inner in self._block(pair):
                    if inner not in seen:
                        seen[inner] = True
                        layer.append(inner)
            self._layers.append(layer)
            self.barred_pairs = self._barred_of(layer)

    def _barred_of(self, pairs):
        """The list of the barred ones of some pairs."""
        found = []
        for pair in pairs:
            node, other_node = divmod(pair, self._many)
            if self._barred[self._shades[node]][self._others[other_node]]:
                found.append(pair)
        return found

    def _block(self, pair):
        if pair not in self._inner:
            node, other_node = divmod(pair, self._many)
            self._inner[pair] = [a + b for a, b in zip(self._blocks[node], self._other_blocks[other_node])]
        return self._inner[pair]

    def _row(self, pair, i):
        return self._block(pair)[i * self._base:(i + 1) * self._base]

    def first_cell(self):
        """The tuple (depth, row, column) of the first goal in reading order, at the depth of all goals."""
        ways = [{goal: True for goal in self.barred_pairs}]
        for layer in self._layers[-2::-1]:
            ahead = ways[-1]
            ways.append({pair: True for pair in layer if any([inner in ahead for inner in self._block(pair)])})
        ways.reverse()
        rows, strips = self._first_row(ways)
        # From the end on, of each strip that is left which leads to a goal in this row.
        for at in reversed(range(len(rows))):
            ahead = strips[at + 1]
            row = rows[at]
            strips[at] = {pair: True for pair in strips[at] if any([inner in ahead for inner in self._row(pair, row)])}
        columns = self._first_column(rows, strips)
        return (len(rows), number_of_figures(self._base, rows), number_of_figures(self._base, columns))

    def _first_row(self, ways):
        """The figures of the first row with a goal, and for each depth the pairs that stand in it on ways to goals."""
        strips = [ways[0]]
        rows = []
        for ahead in ways[1:]:
            row = 0
            strip = self._strip(strips[-1], row, ahead)
            while not strip:
                row += 1
                strip = self._strip(strips[-1], row, ahead)
            rows.append(row)
            strips.append(strip)
        return rows, strips

    def _strip(self, pairs, row, ahead):
        return {inner: True for pair in pairs for inner in self._row(pair, row) if inner in ahead}

    def _first_column(self, rows, strips):
        """The figures of the first column with a goal in a row."""
        pair = self._layers[0][0]
        columns = []
        for row, ahead in zip(rows, strips[1:]):
            inners = self._row(pair, row)
            column = 0
            while inners[column] not in ahead:
                column += 1
            columns.append(column)
            pair = inners[column]
        return columns
