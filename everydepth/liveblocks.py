"""Blocks of sheets that are worked on: letter sheets, and blocks that are as the letter sheet of no letter.

A node is the least letter whose letter sheet a block is as, or else a number for the nodes of its
parts. So two blocks of one depth have the same letters exactly if their nodes are equal. One node
may stand for blocks of several depths; that of the block is always told.
"""

from everydepth.adding import Sources
from everydepth.sums import flow_of

SHADES = 4


class LiveBlocks:
    """The nodes of the blocks of one book, in sheets of at most a depth.

    base, shades and many, the number of letters, are those of the book. rows has for each node, the
    letters first, the rows of the nodes of its parts. Nodes are only added, never changed, so that
    several sheets may have the same ones.
    """

    def __init__(self, book, depth):
        self.base, self.shades, blocks = book
        self.many = len(blocks)
        self.rows = list(blocks)
        self._numbers = {}
        self._counts = {}
        self._unlike = None
        # A block has at most 16 ** depth cells.
        self._width = 4 * depth + 1
        # For each depth the least letter whose sheet is as that of a letter, and such ones by their rows of parts.
        self._least = [list(range(self.many))]
        self._letters = [{}]
        self._tell_letters()

    def _tell_letters(self):
        """Tells the letters that have the same sheets, up to the depth from which on that is always the same."""
        while True:
            letters = {}
            least = [letters.setdefault(self._least_rows(letter, -1), letter) for letter in range(self.many)]
            if letters == self._letters[-1]:
                return
            self._least.append(least)
            self._letters.append(letters)

    def _least_rows(self, letter, at):
        least = self._least[at]
        return tuple([tuple([least[inner] for inner in row]) for row in self.rows[letter]])

    def _place(self, depth):
        return min(depth, len(self._least) - 1)

    def least(self, letter, depth):
        """The node of the letter sheet of a letter, the least letter with the same one of this depth."""
        return self._least[self._place(depth)][letter]

    def rows_of(self, node, depth):
        """The rows of the nodes of the parts of a block of a depth, at least 1."""
        if node >= self.many:
            return self.rows[node]
        return self._least_rows(node, self._place(depth - 1))

    def node_of(self, rows, depth):
        """The node of the block of a depth, at least 1, whose parts have these rows of nodes."""
        letter = self._letters[self._place(depth)].get(rows)
        if letter is not None:
            return letter
        if rows not in self._numbers:
            self._numbers[rows] = len(self.rows)
            self.rows.append(rows)
        return self._numbers[rows]

    def counts(self, node, depth):
        """The numbers of the cells of the four shades in a block, as one integer that told_counts reads."""
        if depth == 0:
            return 1 << (self._width * self.shades[node])
        key = (node, depth)
        if key not in self._counts:
            self._counts[key] = sum([self.counts(inner, depth - 1) for row in self.rows[node] for inner in row])
        return self._counts[key]

    def told_counts(self, number):
        """The tuple of the four numbers in an integer, or in a sum of such."""
        found = []
        for _ in range(SHADES):
            found.append(number & ((1 << self._width) - 1))
            number = number >> self._width
        return tuple(found)

    def unlike(self, node, other_node, depth):
        """How many cells of two blocks of a depth have unlike shades."""
        if self._unlike is None:
            self._unlike = UnlikeCells(self, self, True)
        return self._unlike.number(node, other_node, depth)


class UnlikeCells:
    """The numbers of cells with unlike shades in two blocks of one depth, of two LiveBlocks or of one.

    The sheets of two letters are told by tables: for each depth, for each pair of letters, the letter
    of the one as many times as the other has letters, and that of the other.
    """

    def __init__(self, blocks, others, are_one):
        self._blocks = blocks
        self._others = others
        self._are_one = are_one
        self._known = {}
        unlike = []
        places = []
        for shade, block in zip(blocks.shades, blocks.rows):
            for other_shade, other_block in zip(others.shades, others.rows):
                unlike.append(int(shade != other_shade))
                pairs = both_cells(block, other_block)
                places.append([inner * others.many + other_inner for inner, other_inner in pairs])
        self._tables = [unlike]
        self._sources = Sources(places)

    def number(self, node, other_node, depth):
        """The number of two blocks, told by their nodes and their depth."""
        if self._are_one and node == other_node:
            return 0
        if node < self._blocks.many and other_node < self._others.many:
            while len(self._tables) <= depth:
                self._tables.append(self._sources.sums(self._tables[-1]))
            return self._tables[depth][node * self._others.many + other_node]
        key = (node, other_node, depth)
        if key not in self._known:
            pairs = flow_of(both_cells(self._blocks.rows[node], self._others.rows[other_node]))
            self._known[key] = sum([times * self.number(pair[0], pair[1], depth - 1) for pair, times in pairs])
        return self._known[key]


def both_cells(rows, other_rows):
    """The list of the pairs of the nodes at the same places of two blocks."""
    found = []
    for row, other_row in zip(rows, other_rows):
        found.extend(list(zip(row, other_row)))
    return found


def same_letters(blocks, others, node, other_node):
    """Whether two blocks of one depth, of two LiveBlocks with one book, have the same letters."""
    ready = [(node, other_node)]
    seen = {(node, other_node): True}
    while ready:
        node, other_node = ready.pop()
        if node < blocks.many or other_node < blocks.many:
            if node != other_node:
                return False
        else:
            for pair in both_cells(blocks.rows[node], others.rows[other_node]):
                if pair not in seen:
                    seen[pair] = True
                    ready.append(pair)
    return True
