"""Whether two pictures have a pair of letters at one cell that they are not to have, and the first such cell."""

from everydepth.walks import pair_blocks

# For each pair of shades whether they are unlike.
UNLIKE = ((False, True, True, True), (True, False, True, True), (True, True, False, True), (True, True, True, False))


def are_alike(blocks, shades, letter, other_blocks, other_shades, other_letter):
    """Whether two letters have the same sheets at ALL depths, in two lists of blocks in reading order.

    Letters that are to be alike are put together, so that no more pairs are looked at than both
    have letters: what is asked of a pair that is together already is asked of others ahead of it.
    """
    many = len(blocks)
    heads = list(range(many + len(other_blocks)))
    ready = [(letter, other_letter)]
    while ready:
        letter, other_letter = ready.pop()
        head = head_of(heads, letter)
        other_head = head_of(heads, many + other_letter)
        if head != other_head:
            if shades[letter] != other_shades[other_letter]:
                return False
            heads[other_head] = head
            ready.extend(list(zip(blocks[letter], other_blocks[other_letter])))
    return True


def head_of(heads, node):
    """The one of those put together with a node that stands for them."""
    while heads[node] != node:
        heads[node] = heads[heads[node]]
        node = heads[node]
    return node


def first_barred(one, other, barred):
    """The tuple (depth, row, column) of the least depth and first cell that is barred, None if there is none.

    A cell is barred by barred[s][t], with the shade s of the one and the shade t of the other one there.
    """
    layers = PairLayers(one, other, barred)
    if not layers.goals:
        return None
    return layers.first_cell()


class PairLayers:
    """The pairs of letters at one cell by the depths at which they first come, up to the first barred ones, the goals.

    A pair is the letter of the one as many times as the other has letters, and that of the other.
    On the way to a goal each pair stands at the depth at which it first comes, or the goal would come earlier.
    """

    def __init__(self, one, other, barred):
        self._base = one[0][0]
        self._many = len(other[0][1])
        self._shades = one[0][1]
        self._others = other[0][1]
        self._barred = barred
        self._blocks = pair_blocks(one, other)
        self._inner = {}
        start = one[1] * self._many + other[1]
        self._layers = [[start]]
        self.goals = self._barred_of([start])
        seen = {start: True}
        while self._layers[-1] and not self.goals:
            layer = []
            for pair in self._layers[-1]:
                for inner in self._block(pair):
                    if inner not in seen:
                        seen[inner] = True
                        layer.append(inner)
            self._layers.append(layer)
            self.goals = self._barred_of(layer)

    def _barred_of(self, pairs):
        """The list of the barred ones of some pairs."""
        found = []
        for pair in pairs:
            letter, other_letter = divmod(pair, self._many)
            if self._barred[self._shades[letter]][self._others[other_letter]]:
                found.append(pair)
        return found

    def _block(self, pair):
        if pair not in self._inner:
            letter, other_letter = divmod(pair, self._many)
            ones, others = self._blocks
            self._inner[pair] = [a + b for a, b in zip(ones[letter], others[other_letter])]
        return self._inner[pair]

    def _row(self, pair, i):
        return self._block(pair)[i * self._base:(i + 1) * self._base]

    def first_cell(self):
        """The tuple (depth, row, column) of the first goal in reading order, at the depth of all goals."""
        ways = [{goal: True for goal in self.goals}]
        for layer in self._layers[-2::-1]:
            ahead = ways[-1]
            ways.append({pair: True for pair in layer if any([inner in ahead for inner in self._block(pair)])})
        ways.reverse()
        rows, strips = self._first_row(ways)
        # From the end on, of each strip that is left which leads to a goal in this row.
        for at in reversed(range(len(rows))):
            ahead = strips[at + 1]
            row = rows[at]
            strips[at] = {pair: True for pair in strips[at] if any([inner in ahead for inner in self._row(pair, row)])}
        columns = self._first_column(rows, strips)
        return (len(rows), number_of_figures(self._base, rows), number_of_figures(self._base, columns))

    def _first_row(self, ways):
        """The figures of the first row with a goal, and for each depth the pairs that stand in it on ways to goals."""
        strips = [ways[0]]
        rows = []
        for ahead in ways[1:]:
            row = 0
            strip = self._strip(strips[-1], row, ahead)
            while not strip:
                row += 1
                strip = self._strip(strips[-1], row, ahead)
            rows.append(row)
            strips.append(strip)
        return rows, strips

    def _strip(self, pairs, row, ahead):
        return {inner: True for pair in pairs for inner in self._row(pair, row) if inner in ahead}

    def _first_column(self, rows, strips):
        """The figures of the first column with a goal in a row."""
        pair = self._layers[0][0]
        columns = []
        for row, ahead in zip(rows, strips[1:]):
            inners = self._row(pair, row)
            column = 0
            while inners[column] not in ahead:
                column += 1
            columns.append(column)
            pair = inners[column]
        return columns


def number_of_figures(base, figures):
    """The number with these figures, the highest ones first."""
    number = 0
    for figure in figures:
        number = number * base + figure
    return number
