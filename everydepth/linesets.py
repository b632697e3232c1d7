"""Lines read figure by figure: which letters stand on a row or on a column of a sheet, as one finite machine."""

from everydepth.masks import nodes_in, united
from everydepth.sums import Sums, tables_of


class LineSets:
    """The sets of letters that ever stand on one line of the sheets of some pictures of one base.

    A node is such a set of one of the pictures. starts has the node of the letter of each picture,
    steps for each node the nodes of its lines by the next figure, depths the least depth of each,
    and full tells of each whether all of its letters have one of the shades.
    """

    def __init__(self, pictures, along, shades):
        self.base = pictures[0][0][0]
        self.starts = []
        self.steps = []
        self.depths = []
        self.full = []
        for picture in pictures:
            self.starts.append(len(self.full))
            self._explore(line_masks(picture[0], along), 1 << picture[1], letters_without(picture[0][1], shades))

    def _explore(self, masks, start, others):
        first = len(self.full)
        waiting = [start]
        numbers = {start: first}
        self.depths.append(0)
        while len(self.full) - first < len(waiting):
            at = len(self.full)
            letters = waiting[at - first]
            nexts = []
            for figure in range(self.base):
                inner = letters_on(masks, letters, figure)
                if inner not in numbers:
                    numbers[inner] = first + len(waiting)
                    waiting.append(inner)
                    self.depths.append(self.depths[at] + 1)
                nexts.append(numbers[inner])
            self.steps.append(nexts)
            self.full.append(letters & others == 0)

    def goals(self):
        """The list of the nodes that are full."""
        return [node for node, full in enumerate(self.full) if full]

    def sums(self):
        """The sums that tell for each node how many of its lines at each depth are full."""
        return Sums(self.steps, [int(full) for full in self.full])

    def tables(self, depth):
        """For each depth up to this one the list of the numbers of full lines of all nodes."""
        sums = self.sums()
        return [[numbers[kind] for kind in sums.kinds] for numbers in tables_of(sums.flows, sums.weights, depth)]


def all_full_lines(picture, depth, along, shades):
    """The set of the lines of a sheet of small depth all of whose cells have one of some shades: a bit for each."""
    blocks = line_blocks(picture[0], along)
    full = [int(shade in shades) for shade in picture[0][1]]
    side = 1
    for _ in range(depth):
        full = [full_lines_of(lines, full, side) for lines in blocks]
        side = side * picture[0][0]
    return full[picture[1]]


def full_lines_of(lines, full, side):
    """The set of the full lines of what the lines of a block have inside, each letter so many with such a set."""
    found = 0
    at = 0
    for line in lines:
        here = -1
        for inner in line:
            here = here & full[inner]
        found = found | (here << at)
        at += side
    return found


def line_blocks(book, along):
    """For each letter the lines of its block: its rows, or its columns, tuples of letters."""
    if along == "row":
        return list(book[2])
    return [tuple(zip(*block)) for block in book[2]]


def line_masks(book, along):
    """For each letter, for each line of its block, the set of the letters there."""
    return [[united([1 << letter for letter in line]) for line in lines] for lines in line_blocks(book, along)]


def letters_on(masks, letters, figure):
    """The set of the letters on a line with this next figure of blocks of some letters."""
    return united([masks[letter][figure] for letter in nodes_in(letters)])


def letters_without(shades, some):
    """The set of the letters that have none of some shades."""
    return united([1 << letter for letter, shade in enumerate(shades) if shade not in some])
