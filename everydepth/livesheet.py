"""Sheets that are worked on: blocks painted, copied and exchanged, and all of that taken back."""

from everydepth.cells import check_place, figures_of
from everydepth.errors import InvalidAddress, InvalidLetter, NoPart, Nothing, Unlike, anew
from everydepth.liveblocks import LiveBlocks, UnlikeCells, same_letters
from everydepth.pictures import check_depth, check_picture, is_int, is_tuple_of
from everydepth.rectangles import check_rectangle
from everydepth.strips import whole_blocks


class Sheet:
    """A sheet each of whose cells holds a letter of a book, at first those of a picture's letter sheet."""

    def __init__(self, picture, depth):
        check_picture(picture)
        check_depth(depth)
        self._picture = picture
        self._depth = depth
        self._blocks = LiveBlocks(picture[0], depth)
        # The nodes of the whole sheet, at first and behind each deed.
        self._wholes = [self._blocks.least(picture[1], depth)]
        self._deeds = []
        # For each open part the number of the deeds ahead of it.
        self._begins = []

    @property
    def picture(self):
        """The picture that the sheet was made of."""
        return self._picture

    @property
    def depth(self):
        """The depth of the sheet."""
        return self._depth

    @property
    def parts(self):
        """How many parts are open."""
        return len(self._begins)

    @property
    def story(self):
        """The tuple of all deeds that stand."""
        return tuple(self._deeds)

    def __len__(self):
        return len(self._deeds)

    def __eq__(self, other):
        if not isinstance(other, Sheet):
            return False
        if self._picture[0] != other._picture[0] or self._depth != other._depth:
            return False
        return same_letters(self._blocks, other._blocks, self._wholes[-1], other._wholes[-1])

    def paint(self, address, letter):
        """The block becomes the letter sheet of a letter; how many cells have another shade."""
        self._check_address(address)
        if not is_int(letter) or not 0 <= letter < self._blocks.many:
            raise InvalidLetter(anew(letter))
        left = self._depth - len(address)
        node = self._node_at(address)
        painted = self._blocks.least(letter, left)
        self._add_deed(("paint", address, letter), self._with_block(self._wholes[-1], address, painted))
        return self._blocks.unlike(node, painted, left)

    def copy_block(self, address, other):
        """The block at the other address becomes as that at the address is; how many cells have another shade."""
        self._check_addresses(address, other)
        node, other_node = self._node_at(address), self._node_at(other)
        self._add_deed(("copy", address, other), self._with_block(self._wholes[-1], other, node))
        return self._blocks.unlike(node, other_node, self._depth - len(address))

    def swap_blocks(self, address, other):
        """Both blocks are exchanged; how many cells have another shade."""
        self._check_addresses(address, other)
        node, other_node = self._node_at(address), self._node_at(other)
        whole = self._with_block(self._wholes[-1], address, other_node)
        self._add_deed(("swap", address, other), self._with_block(whole, other, node))
        return 2 * self._blocks.unlike(node, other_node, self._depth - len(address))

    def undo(self):
        """Takes back the last deed behind the beginning of the innermost part; its word."""
        first = self._begins[-1] if self._begins else 0
        if len(self._deeds) == first:
            raise Nothing(None)
        self._wholes.pop()
        return self._deeds.pop()[0]

    def begin(self):
        """Opens a part."""
        self._begins.append(len(self._deeds))

    def keep(self):
        """Ends the innermost part; its deeds stay in what is around it."""
        self._end_part()

    def drop(self):
        """Ends the innermost part; its deeds are taken back."""
        first = self._end_part()
        del self._deeds[first:]
        del self._wholes[first + 1:]

    def twin(self):
        """A sheet with the same deeds, all of which it can take back, without parts."""
        found = Sheet(self._picture, self._depth)
        found._blocks = self._blocks
        found._wholes = list(self._wholes)
        found._deeds = list(self._deeds)
        return found

    def letter_at(self, row, column):
        """The letter of a place."""
        base = self._blocks.base
        check_place(base, self._depth, row, column)
        node = self._wholes[-1]
        for i, j in zip(figures_of(base, self._depth, row), figures_of(base, self._depth, column)):
            node = self._blocks.rows[node][i][j]
        return node

    def shade_at(self, row, column):
        """The shade of a place."""
        letter = self.letter_at(row, column)
        return self._blocks.shades[letter]

    def counts(self):
        """The tuple of the numbers of cells of the four shades."""
        return self._blocks.told_counts(self._blocks.counts(self._wholes[-1], self._depth))

    def counts_in(self, rectangle):
        """The tuple of the numbers of cells of the four shades in a rectangle."""
        check_rectangle(self._picture, self._depth, rectangle)
        layers = whole_blocks(self._blocks.rows, self._wholes[-1], self._blocks.base, self._depth, rectangle)
        found = 0
        for at, layer in enumerate(layers):
            for node, times in layer.items():
                found += times * self._blocks.counts(node, self._depth - at)
        return self._blocks.told_counts(found)

    def blocks(self):
        """The list of the tuples (address, letter) of the fewest blocks that are as letter sheets."""
        found = []
        ready = [(self._wholes[-1], ())]
        while ready:
            node, address = ready.pop()
            if node < self._blocks.many:
                found.append((address, node))
            else:
                rows = self._blocks.rows[node]
                inner = [(part, (*address, (i, j))) for i, row in enumerate(rows) for j, part in enumerate(row)]
                # The first one is to be taken next.
                inner.reverse()
                ready.extend(inner)
        return found

    def unlike_cells(self, other):
        """How many cells of two sheets have unlike shades."""
        if other._blocks.base != self._blocks.base:
            raise Unlike(other._blocks.base)
        if other._depth != self._depth:
            raise Unlike(other._depth)
        cells = UnlikeCells(self._blocks, other._blocks, False)
        return cells.number(self._wholes[-1], other._wholes[-1], self._depth)

    def _add_deed(self, deed, whole):
        self._deeds.append(deed)
        self._wholes.append(whole)

    def _end_part(self):
        """Ends the innermost part; the number of the deeds ahead of it."""
        if not self._begins:
            raise NoPart(None)
        return self._begins.pop()

    def _node_at(self, address):
        node = self._wholes[-1]
        left = self._depth
        for i, j in address:
            node = self._blocks.rows_of(node, left)[i][j]
            left -= 1
        return node

    def _with_block(self, whole, address, node):
        """The node of the whole sheet with another block at an address."""
        above = []
        left = self._depth
        for i, j in address:
            above.append(self._blocks.rows_of(whole, left))
            whole = above[-1][i][j]
            left -= 1
        for (i, j), rows in reversed(list(zip(address, above))):
            left += 1
            row = (*rows[i][:j], node, *rows[i][j + 1:])
            node = self._blocks.node_of((*rows[:i], row, *rows[i + 1:]), left)
        return node

    def _check_address(self, address):
        """Raises InvalidAddress for any object that is no address in the sheet."""
        if not is_address(address, self._depth, self._blocks.base):
            raise InvalidAddress(anew(address))

    def _check_addresses(self, address, other):
        """Raises InvalidAddress for any object that is none, Unlike for two addresses of unlike lengths."""
        self._check_address(address)
        self._check_address(other)
        if len(other) != len(address):
            raise Unlike(len(other))


def is_address(value, depth, base):
    """Whether any object is an address in a sheet of a depth."""
    if not isinstance(value, tuple) or len(value) > depth:
        return False
    return all([is_figure_pair(entry, base) for entry in value])


def is_figure_pair(value, base):
    """Whether any object is a tuple of two figures."""
    if not is_tuple_of(value, 2) or not is_int(value[0]) or not is_int(value[1]):
        return False
    return 0 <= value[0] < base and 0 <= value[1] < base
