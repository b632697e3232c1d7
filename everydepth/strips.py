"""Rectangles cut into blocks: which blocks of each depth lie in one whole, while greater ones do not.

A rectangle is what the rows ahead of its lower end have in common with the columns ahead of its
right end, less the like for its upper and its left end. So each of the four ends is followed on its
own, from the whole sheet down: the blocks on its line are its strip, and a block that two ends cross
is a corner. The numbers of blocks may be below 0 at a depth: what is taken off is inside of others.
"""

from everydepth.cells import figures_of, side_of


class End:
    """One end of a rectangle: the first row, or column, behind it.

    sign tells whether what is ahead of it counts or is taken off. figures has its figures, of which
    those behind the depth lasts are all 0; whole tells that it is that of the sheet. strip has, for
    each node on its line, how many of its blocks lie between the ends of the other kind.
    """

    def __init__(self, base, depth, number, sign):
        self.sign = sign
        self.whole = number == side_of(base, depth)
        self.figures = figures_of(base, depth, number)
        self.lasts = 0
        if not self.whole:
            self.lasts = max([place + 1 for place, figure in enumerate(self.figures) if figure > 0], default=0)
        self.strip = {}


def add_times(found, nodes, times):
    """Adds so many times each of some nodes."""
    for node in nodes:
        found[node] = found.get(node, 0) + times


def whole_blocks(blocks, start, base, depth, rectangle):
    """For each depth up to this one a dict of how often each node is a block that lies whole in a rectangle.

    blocks has for each node its rows, of base nodes each; start is the node of the whole sheet.
    """
    top, left, below, right = rectangle
    layers = [{} for _ in range(depth + 1)]
    if top == below or left == right:
        return layers
    rows = [End(base, depth, below, 1), End(base, depth, top, -1)]
    columns = [End(base, depth, right, 1), End(base, depth, left, -1)]
    if rows[0].whole and columns[0].whole:
        layers[0][start] = 1
    for ends, others in ((rows, columns), (columns, rows)):
        if others[0].whole:
            for end in ends:
                end.strip = {start: 1}
    corners = [(row, column, start) for row in rows for column in columns]
    for at in range(depth):
        rows = [end for end in rows if end.lasts > at]
        columns = [end for end in columns if end.lasts > at]
        corners = [corner for corner in corners if corner[0].lasts > at and corner[1].lasts > at]
        if not rows and not columns:
            break
        step_rows(layers[at + 1], blocks, rows, at)
        step_columns(layers[at + 1], blocks, columns, at)
        corners = [step_corner(layers[at + 1], blocks, corner, at) for corner in corners]
    return layers


def step_rows(layer, blocks, ends, at):
    """Goes one figure deeper along the strips of some rows; what lies whole ahead of them goes to the layer."""
    for end in ends:
        figure = end.figures[at]
        strip = {}
        for node, times in end.strip.items():
            if times != 0:
                block = blocks[node]
                add_times(strip, block[figure], times)
                for row in block[:figure]:
                    add_times(layer, row, times * end.sign)
        end.strip = strip


def step_columns(layer, blocks, ends, at):
    """The like for columns."""
    for end in ends:
        figure = end.figures[at]
        strip = {}
        for node, times in end.strip.items():
            if times != 0:
                for row in blocks[node]:
                    add_times(strip, row[figure:figure + 1], times)
                    add_times(layer, row[:figure], times * end.sign)
        end.strip = strip


def step_corner(layer, blocks, corner, at):
    """The corner one figure deeper; what lies beside it goes to the strips of both of its ends and to the layer."""
    row_end, column_end, node = corner
    block = blocks[node]
    i, j = row_end.figures[at], column_end.figures[at]
    for row in block[:i]:
        add_times(layer, row[:j], row_end.sign * column_end.sign)
        add_times(column_end.strip, row[j:j + 1], row_end.sign)
    add_times(row_end.strip, block[i][:j], column_end.sign)
    return (row_end, column_end, block[i][j])
