"""What the tests compare live sheets with: grids of letters, painted, copied, exchanged and taken back cell by cell."""

from tests.model import letter_sheet


def block_place(base, depth, address):
    """The tuple (first row, first column, side) of a block."""
    row = column = 0
    for i, j in address:
        row, column = row * base + i, column * base + j
    side = base ** (depth - len(address))
    return row * side, column * side, side


class PlainSheet:
    """A Sheet as the document tells it, with all of its cells; it keeps all grids, so that each deed can be taken back."""

    def __init__(self, picture, depth):
        self.book = picture[0]
        self.base = picture[0][0]
        self.depth = depth
        self.grids = [letter_sheet(picture, depth)]
        self.story = []
        self.begins = []

    def grid(self):
        return self.grids[-1]

    def block(self, address):
        row, column, side = block_place(self.base, self.depth, address)
        return [line[column:column + side] for line in self.grid()[row:row + side]]

    def with_block(self, grid, address, block):
        row, column, side = block_place(self.base, self.depth, address)
        found = [list(line) for line in grid]
        for at, line in enumerate(block):
            found[row + at][column:column + side] = line
        return found

    def done(self, deed, grid):
        ahead = self.grid()
        self.story.append(deed)
        self.grids.append(grid)
        return self.unlike(ahead, grid)

    def unlike(self, one, other):
        shades = self.book[1]
        return sum(shades[a] != shades[b] for row, line in zip(one, other) for a, b in zip(row, line))

    def paint(self, address, letter):
        painted = letter_sheet((self.book, letter), self.depth - len(address))
        return self.done(("paint", address, letter), self.with_block(self.grid(), address, painted))

    def copy_block(self, address, other):
        return self.done(("copy", address, other), self.with_block(self.grid(), other, self.block(address)))

    def swap_blocks(self, address, other):
        one, two = self.block(address), self.block(other)
        grid = self.with_block(self.grid(), address, two)
        return self.done(("swap", address, other), self.with_block(grid, other, one))

    def can_undo(self):
        return len(self.story) > (self.begins[-1] if self.begins else 0)

    def undo(self):
        self.grids.pop()
        return self.story.pop()[0]

    def begin(self):
        self.begins.append(len(self.story))

    def keep(self):
        self.begins.pop()

    def drop(self):
        first = self.begins.pop()
        self.story = self.story[:first]
        self.grids = self.grids[:first + 1]

    def twin(self):
        found = PlainSheet((self.book, 0), 0)
        found.depth = self.depth
        found.grids = list(self.grids)
        found.story = list(self.story)
        return found

    def shade_rows(self):
        return [[self.book[1][letter] for letter in row] for row in self.grid()]

    def counts_in(self, rectangle):
        top, left, below, right = rectangle
        cells = [shade for row in self.shade_rows()[top:below] for shade in row[left:right]]
        return tuple(cells.count(shade) for shade in range(4))

    def blocks(self, address=()):
        """The fewest blocks, told from the greatest on."""
        for letter in range(len(self.book[1])):
            if letter_sheet((self.book, letter), self.depth - len(address)) == self.block(address):
                return [(address, letter)]
        places = [(i, j) for i in range(self.base) for j in range(self.base)]
        return [entry for place in places for entry in self.blocks(address + (place,))]


def same_blocks_book(random, base, letters):
    """A book in which several letters have the same block, so that from depth 1 on they have the same letter sheets."""
    some = [tuple(tuple(random.randrange(letters) for _ in range(base)) for _ in range(base)) for _ in range(2)]
    return (base, tuple(random.randrange(4) for _ in range(letters)), tuple(random.choice(some) for _ in range(letters)))


NO_ADDRESSES = [
    None, 0, True, "", "-", "00", [], {}, set(), object(), 7, (0,), (0, 0), ((0,),), ((0, 0, 0),), ((0, None),),
    ((True, 0),), ((0, False),), (("0", "0"),), [(0, 0)], ([0, 0],), ((0, 0), [1, [1]]), ((-1, 0),), ((0, 9),), ((0, 0), ()),
]
