"""Sums over the rows and columns of blocks: for each node how many blocks it has, and where, figure by figure.

The sums of some blocks of one depth, all of one node, are a list of six integers: how many they are,
the sum of their rows, of their columns, of the squares of the rows, of those of the columns, and of
the products of row and column. Rows and columns are those of the sheet of that depth: by one more
figure they are base times as great, and the figure more.
"""

from everydepth.strips import End


def moment_flows(blocks):
    """For each node the list of the tuples (node, six sums) of the places of its block."""
    found = []
    for block in blocks:
        flow = {}
        for i, row in enumerate(block):
            for j, inner in enumerate(row):
                add_blocks(flow, inner, (1, i, j, i * i, j * j, i * j))
        found.append([(inner, *sums) for inner, sums in flow.items()])
    return found


def add_blocks(found, node, more):
    """Adds six sums to those of a node."""
    if node not in found:
        found[node] = list(more)
        return
    found[node] = [one + other for one, other in zip(found[node], more)]


def deeper_moments(flows, base, blocks):
    """The sums of all nodes at one more depth, of those at a depth."""
    found = {}
    square = base * base
    for node, (many, rows, columns, row_squares, column_squares, products) in blocks.items():
        rows, columns = rows * base, columns * base
        row_squares, column_squares, products = row_squares * square, column_squares * square, products * square
        for inner, times, i, j, ii, jj, ij in flows[node]:
            if inner not in found:
                found[inner] = [0, 0, 0, 0, 0, 0]
            sums = found[inner]
            sums[0] += times * many
            sums[1] += times * rows + i * many
            sums[2] += times * columns + j * many
            sums[3] += times * row_squares + 2 * i * rows + ii * many
            sums[4] += times * column_squares + 2 * j * columns + jj * many
            sums[5] += times * products + i * columns + j * rows + ij * many
    return found


def moments_of_cells(picture, depth):
    """For each letter the six sums of its cells in the sheet of a depth."""
    flows = moment_flows(picture[0][2])
    found = {picture[1]: [1, 0, 0, 0, 0, 0]}
    for _ in range(depth):
        found = deeper_moments(flows, picture[0][0], found)
    return found


class LineEnd(End):
    """One end of a rectangle, with the sums of the blocks on its line.

    place is that of the line at the depth that is reached. strip has, for each node, how many of its
    blocks on the line lie between the ends of the other kind, the sum of their places on the line
    and that of the squares of these.
    """

    def __init__(self, base, depth, number, sign, lines, swapped):
        End.__init__(self, base, depth, number, sign)
        self.place = 0
        self._base = base
        self._lines = lines
        self._swapped = swapped

    def hold(self, node, many, place):
        """Adds a block on the line, perhaps as many times."""
        add_on_strip(self.strip, node, many, many * place, many * place * place)

    def step(self, found, at):
        """Goes one figure deeper; what lies whole ahead of the line is added to the sums that are found."""
        base = self._base
        figure = self.figures[at]
        self.place = self.place * base
        strips = [{} for _ in range(figure + 1)]
        for node, (many, places, squares) in self.strip.items():
            if many != 0:
                sums = shifted_sums(base, many, places * base, squares * base * base)
                for strip, line in zip(strips, self._lines[node]):
                    for inner, (moved, moved_squares) in zip(line, sums):
                        add_on_strip(strip, inner, many, moved, moved_squares)
        self.strip = strips.pop()
        for strip in strips:
            self._add_line(found, strip)
            self.place += 1

    def _add_line(self, found, strip):
        """Adds to the sums that are found those of a whole line, at the place of the end."""
        line = self.place
        for node, (many, places, squares) in strip.items():
            if self.sign < 0:
                many, places, squares = -many, -places, -squares
            more = line * many
            if self._swapped:
                add_blocks(found, node, (many, places, more, squares, line * more, line * places))
            else:
                add_blocks(found, node, (many, more, places, line * more, squares, line * places))


def shifted_sums(base, many, places, squares):
    """For each figure the sums of the places, and of their squares, of so many blocks, each so many places further."""
    return [(places + j * many, squares + 2 * j * places + j * j * many) for j in range(base)]


def add_on_strip(strip, node, many, places, squares):
    """Adds three sums to those of a node on a strip."""
    if node not in strip:
        strip[node] = [many, places, squares]
        return
    sums = strip[node]
    sums[0] += many
    sums[1] += places
    sums[2] += squares


def moments_of_rectangle(picture, depth, rectangle):
    """For each letter the six sums of its cells in a rectangle of the sheet of a depth."""
    top, left, below, right = rectangle
    if top == below or left == right:
        return {}
    (base, _, blocks), start = picture
    columns_of = [tuple(zip(*block)) for block in blocks]
    rows = [LineEnd(base, depth, number, sign, blocks, False) for number, sign in ((below, 1), (top, -1))]
    columns = [LineEnd(base, depth, number, sign, columns_of, True) for number, sign in ((right, 1), (left, -1))]
    found = {start: [1, 0, 0, 0, 0, 0]} if rows[0].whole and columns[0].whole else {}
    for ends, others in ((rows, columns), (columns, rows)):
        if others[0].whole:
            for end in ends:
                end.hold(start, 1, 0)
    corners = [(row, column, start) for row in rows for column in columns]
    flows = moment_flows(blocks)
    for at in range(depth):
        found = deeper_moments(flows, base, found)
        ends = [end for end in rows + columns if end.lasts > at]
        corners = [corner for corner in corners if corner[0].lasts > at and corner[1].lasts > at]
        for end in ends:
            end.step(found, at)
        corners = [step_corner(found, blocks, corner, at) for corner in corners]
    return found


def step_corner(found, blocks, corner, at):
    """The corner one figure deeper; what lies beside it is added to both of its ends and to the sums that are found."""
    row_end, column_end, node = corner
    i, j = row_end.figures[at], column_end.figures[at]
    # The ends have gone ahead.
    row, column = row_end.place - i, column_end.place - j
    both = row_end.sign * column_end.sign
    for more_rows, inners in enumerate(blocks[node][:i]):
        down = row + more_rows
        for more_columns, inner in enumerate(inners[:j]):
            right = column + more_columns
            sums = (1, down, right, down * down, right * right, down * right)
            add_blocks(found, inner, [both * number for number in sums])
        column_end.hold(inners[j], row_end.sign, down)
    for more_columns, inner in enumerate(blocks[node][i][:j]):
        row_end.hold(inner, column_end.sign, column + more_columns)
    return (row_end, column_end, blocks[node][i][j])
