"""Walks: all depths of one picture, or of several together, as one finite machine."""


class Walk:
    """The nodes of some pictures of one base: the tuples of letters, one of each picture, that ever stand at one cell.

    base is that of the pictures. nodes has the tuples by their first ways, so that of the
    pictures themselves is node 0. depths has the least depth of each, came has the node and the
    place from which its first way comes (None for node 0), steps has the nodes in its block, all
    in reading order. Nodes and places are told by their numbers.
    """

    def __init__(self, pictures):
        self.base = pictures[0][0][0]
        self.nodes = [tuple([picture[1] for picture in pictures])]
        self.depths = [0]
        self.came = [None]
        self.steps = []
        self._explore([flat_blocks(picture[0]) for picture in pictures])

    def _explore(self, books):
        numbers = {self.nodes[0]: 0}
        while len(self.steps) < len(self.nodes):
            at = len(self.steps)
            blocks = [book[letter] for book, letter in zip(books, self.nodes[at])]
            nexts = []
            for place, node in enumerate(zip(*blocks)):
                if node not in numbers:
                    numbers[node] = len(self.nodes)
                    self.nodes.append(node)
                    self.depths.append(self.depths[at] + 1)
                    self.came.append((at, place))
                nexts.append(numbers[node])
            self.steps.append(nexts)


def flat_blocks(book):
    """For each letter of a book the letters of its block in reading order."""
    return [[letter for row in block for letter in row] for block in book[2]]


def way_to(walk, node):
    """The first way of a node, a list of places (i, j)."""
    places = []
    while node > 0:
        node, place = walk.came[node]
        places.append(divmod(place, walk.base))
    places.reverse()
    return places


# Which nodes come at a depth, and at which depth last.


def reached_at(steps, goals, depth):
    """Whether one of the goals comes at exactly this depth."""
    # The depth may have thirty digits, so the steps are squared; nodes are kept as bits.
    jumps = [sum([1 << node for node in sorted(set(nexts))]) for nexts in steps]
    found = 1
    while depth > 0:
        if depth % 2 == 1:
            found = jumped(jumps, found)
        depth = depth // 2
        jumps = [jumped(jumps, bits) for bits in jumps]
    return any([((found >> goal) & 1) == 1 for goal in goals])


def jumped(jumps, bits):
    """The bits of all nodes to which a jump leads from those with these bits."""
    found = 0
    while bits > 0:
        lowest = bits & -bits
        found = found | jumps[lowest.bit_length() - 1]
        bits = bits - lowest
    return found


def last_reached(steps, goals):
    """The greatest depth at which one of the goals, at least one, comes; None if it is endless."""
    leads = leading(steps, goals)
    waits = [0] * len(steps)
    for nexts in steps:
        for after in nexts:
            waits[after] += 1
    # What stands ahead of a leading node leads, too; where leading nodes go round, some of them wait for ever.
    longest = [0] * len(steps)
    ready = [0] if waits[0] == 0 else []
    done = 0
    while ready:
        node = ready.pop()
        done += 1
        for after in steps[node]:
            if leads[after]:
                longest[after] = max(longest[after], longest[node] + 1)
                waits[after] -= 1
                if waits[after] == 0:
                    ready.append(after)
    if done < leads.count(True):
        return None
    return max([longest[goal] for goal in goals])


def leading(steps, goals):
    """For each node whether some way leads from it to a goal."""
    before = [[] for nexts in steps]
    for node, nexts in enumerate(steps):
        for after in nexts:
            before[after].append(node)
    leads = [False] * len(steps)
    for goal in goals:
        leads[goal] = True
    ready = list(goals)
    while ready:
        after = ready.pop()
        for node in before[after]:
            if not leads[node]:
                leads[node] = True
                ready.append(node)
    return leads


# The first cell at which one of some nodes stands.


def first_cell(walk, goals):
    """The tuple (depth, row, column) of the least depth and in it the first cell with a goal; None without goals."""
    if not goals:
        return None
    depth = min([walk.depths[goal] for goal in goals])
    leads = leading_in_time(walk, goals, depth)
    layers, rows = first_row(walk, leads, depth)
    columns = first_column(walk, layers, rows)
    return (depth, number_of_figures(walk.base, rows), number_of_figures(walk.base, columns))


def leading_in_time(walk, goals, depth):
    """For each node whether it first comes so early that a goal comes from it at the depth, the least one of goals.

    A node on the way to such a goal stands at its own least depth there, or the goal would come earlier.
    """
    leads = [False] * len(walk.nodes)
    for goal in goals:
        leads[goal] = walk.depths[goal] == depth
    for node in reversed(range(len(walk.nodes))):
        if not leads[node]:
            leads[node] = any([one_on(walk, leads, node, after) for after in walk.steps[node]])
    return leads


def one_on(walk, leads, node, after):
    """Whether the node after is a leading one, first coming directly behind the other node."""
    return leads[after] and walk.depths[after] == walk.depths[node] + 1


def first_row(walk, leads, depth):
    """The figures of the first row with a goal, and for each depth the nodes that may stand in it."""
    layers = [[0]]
    figures = []
    for _ in range(depth):
        figure = 0
        layer = row_layer(walk, leads, layers[-1], figure)
        while not layer:
            figure += 1
            layer = row_layer(walk, leads, layers[-1], figure)
        figures.append(figure)
        layers.append(layer)
    return layers, figures


def row_layer(walk, leads, layer, figure):
    """The leading nodes, one deeper, in the row with this figure of the blocks of the nodes of a layer."""
    found = {}
    for node in layer:
        for after in block_row(walk, node, figure):
            if one_on(walk, leads, node, after):
                found[after] = True
    return list(found)


def block_row(walk, node, figure):
    """The nodes in a row of the block of a node."""
    return walk.steps[node][figure * walk.base:(figure + 1) * walk.base]


def first_column(walk, layers, rows):
    """The figures of the first column, in the row with these figures, with a goal: the last layer has them."""
    alive = [{node: True for node in layers[-1]}]
    for layer, figure in zip(layers[-2::-1], rows[::-1]):
        ahead = alive[-1]
        alive.append({node: True for node in layer if column_in(walk, node, figure, ahead) is not None})
    alive.reverse()
    node = 0
    figures = []
    for ahead, figure in zip(alive[1:], rows):
        column = column_in(walk, node, figure, ahead)
        node = block_row(walk, node, figure)[column]
        figures.append(column)
    return figures


def column_in(walk, node, figure, ahead):
    """The first column, in a row of the block of a node, with one of the nodes ahead, None if there is none."""
    for column, after in enumerate(block_row(walk, node, figure)):
        if after in ahead:
            return column
    return None


def number_of_figures(base, figures):
    """The number with these figures, the highest ones first."""
    number = 0
    for figure in figures:
        number = number * base + figure
    return number


# The least picture.


def merged(steps, marks):
    """For each node the number of its kind: nodes are of one kind if all ways from them lead to the same marks.

    Of two parts of a kind one, the smaller one, is enough to tell which nodes lead to which:
    so it takes a time of about n log n, where a refinement round by round may take n * n.
    """
    kinds, members = kinds_of_marks(marks)
    before = nodes_before(steps)
    ready = list(range(len(members)))
    waiting = {kind: True for kind in ready}
    while ready:
        kind = ready.pop()
        del waiting[kind]
        told = list(members[kind])
        for into in before:
            for part, inside in leading_parts(into, told, kinds):
                if len(inside) < len(members[part]):
                    split_off(kinds, members, part, inside)
                    smaller = len(members) - 1
                    if part not in waiting and len(members[part]) < len(inside):
                        smaller = part
                    waiting[smaller] = True
                    ready.append(smaller)
    return kinds


def kinds_of_marks(marks):
    """For each node a kind, told by its mark alone, and for each kind its nodes, as keys."""
    numbers = {}
    kinds = []
    members = []
    for node, mark in enumerate(marks):
        if mark not in numbers:
            numbers[mark] = len(members)
            members.append({})
        kinds.append(numbers[mark])
        members[numbers[mark]][node] = True
    return kinds, members


def nodes_before(steps):
    """For each place of a block, for each node, the nodes that have it there."""
    before = [[[] for nexts in steps] for place in steps[0]]
    for node, nexts in enumerate(steps):
        for place, after in enumerate(nexts):
            before[place][after].append(node)
    return before


def leading_parts(into, told, kinds):
    """The list of the tuples of a kind and those of its nodes that lead into the told ones, by one place."""
    parts = {}
    for after in told:
        for node in into[after]:
            parts.setdefault(kinds[node], []).append(node)
    return list(parts.items())


def split_off(kinds, members, kind, inside):
    """Makes some nodes of a kind a new kind, the last one."""
    for node in inside:
        del members[kind][node]
        kinds[node] = len(members)
    members.append({node: True for node in inside})


def folded(walk, marks, kinds):
    """The picture that has a letter for each kind of nodes, with their mark as its shade, named by their first ways.

    Nodes stand by their first ways, and the first way of a kind is that of its first node.
    """
    names = {}
    firsts = []
    for node, kind in enumerate(kinds):
        if kind not in names:
            names[kind] = len(firsts)
            firsts.append(node)
    blocks = []
    for node in firsts:
        rows = [block_row(walk, node, figure) for figure in range(walk.base)]
        blocks.append(tuple([tuple([names[kinds[after]] for after in row]) for row in rows]))
    shades = tuple([marks[node] for node in firsts])
    return ((walk.base, shades, tuple(blocks)), 0)
