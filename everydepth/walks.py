"""Walks: all depths of one picture, or of two together, as one finite machine."""

# So many rounds tell most nodes apart; where they do not, halves are split off, which no chain of nodes makes slow.
ROUNDS = 8


class Walk:
    """The letters of a picture that ever come, or the pairs of letters of two that ever stand at one cell.

    base is that of the pictures. nodes has the letters, or the tuples of two, by their first ways,
    so that of the pictures themselves is node 0. steps has for each the numbers of the nodes in its
    block, in reading order.
    """

    def __init__(self, pictures):
        self.base = pictures[0][0][0]
        self.nodes = []
        self.steps = []
        if len(pictures) == 1:
            self._explore_letters(pictures[0])
        else:
            self._explore_pairs(pictures[0], pictures[1])

    def _explore_letters(self, picture):
        blocks = picture[0][2]
        letters = [picture[1]]
        numbers = [-1] * len(blocks)
        numbers[picture[1]] = 0
        steps = []
        while len(steps) < len(letters):
            block = [letter for row in blocks[letters[len(steps)]] for letter in row]
            for letter in block:
                if numbers[letter] < 0:
                    numbers[letter] = len(letters)
                    letters.append(letter)
            steps.append([numbers[letter] for letter in block])
        self.nodes = letters
        self.steps = steps

    def _explore_pairs(self, one, other):
        many = len(other[0][1])
        ones, others = pair_blocks(one, other)
        # A pair is one integer here: the letter of the one, as many times as the other has letters, and its letter.
        pairs = [one[1] * many + other[1]]
        numbers = [-1] * (many * len(ones))
        numbers[pairs[0]] = 0
        steps = []
        while len(steps) < len(pairs):
            letter, other_letter = divmod(pairs[len(steps)], many)
            block = [a + b for a, b in zip(ones[letter], others[other_letter])]
            for pair in block:
                if numbers[pair] < 0:
                    numbers[pair] = len(pairs)
                    pairs.append(pair)
            steps.append([numbers[pair] for pair in block])
        self.nodes = [divmod(pair, many) for pair in pairs]
        self.steps = steps


def flat_blocks(book):
    """For each letter of a book the letters of its block in reading order."""
    return [[letter for row in block for letter in row] for block in book[2]]


def pair_blocks(one, other):
    """The blocks of two pictures in reading order, in which the sums of two entries are the integers of pairs."""
    many = len(other[0][1])
    return [[letter * many for row in block for letter in row] for block in one[0][2]], flat_blocks(other[0])


def first_way_to(picture, letter):
    """The first way of a letter, a list of places (i, j), None if it never comes."""
    base, _, blocks = picture[0]
    came = {picture[1]: None}
    ready = [picture[1]]
    done = 0
    while done < len(ready) and letter not in came:
        at = ready[done]
        done += 1
        for i, row in enumerate(blocks[at]):
            for j, inner in enumerate(row):
                if inner not in came:
                    came[inner] = (at, (i, j))
                    ready.append(inner)
    if letter not in came:
        return None
    places = []
    while came[letter] is not None:
        letter, place = came[letter]
        places.append(place)
    places.reverse()
    return places


def last_reached(steps, goals):
    """The greatest depth at which one of the goals, at least one, comes; None if it is endless."""
    leads = leading(steps, goals)
    waits = [0] * len(steps)
    for nexts in steps:
        for after in nexts:
            waits[after] += 1
    # What stands ahead of a leading node leads, too; where leading nodes go round, some of them wait for ever.
    longest = [0] * len(steps)
    ready = [0] if waits[0] == 0 else []
    done = 0
    while ready:
        node = ready.pop()
        done += 1
        for after in steps[node]:
            if leads[after]:
                longest[after] = max(longest[after], longest[node] + 1)
                waits[after] -= 1
                if waits[after] == 0:
                    ready.append(after)
    if done < leads.count(True):
        return None
    return max([longest[goal] for goal in goals])


def leading(steps, goals):
    """For each node whether some way leads from it to a goal."""
    before = [[] for nexts in steps]
    for node, nexts in enumerate(steps):
        for after in nexts:
            before[after].append(node)
    leads = [False] * len(steps)
    for goal in goals:
        leads[goal] = True
    ready = list(goals)
    while ready:
        after = ready.pop()
        for node in before[after]:
            if not leads[node]:
                leads[node] = True
                ready.append(node)
    return leads


# The least picture.


def merged(steps, marks):
    """For each node the number of its kind: nodes are of one kind if all ways from them lead to the same marks."""
    kinds = numbered(marks)
    for _ in range(ROUNDS):
        finer = numbered([(kind, tuple([kinds[node] for node in row])) for kind, row in zip(kinds, steps)])
        if max(finer) == max(kinds) or max(finer) == len(finer) - 1:
            return finer
        kinds = finer
    return split_by_halves(steps, kinds)


def numbered(marks):
    """For each mark a number, from 0 on by their first places, equal ones the same."""
    numbers = {}
    return [numbers.setdefault(mark, len(numbers)) for mark in marks]


def split_by_halves(steps, marks):
    """What merged returns.

    Of two parts of a kind one, the smaller one, is enough to tell which nodes lead to which:
    so it takes a time of about n log n, where a refinement round by round may take n * n.
    """
    kinds = numbered(marks)
    members = members_of(kinds)
    before = nodes_before(steps)
    ready = list(range(len(members)))
    waiting = {kind: True for kind in ready}
    while ready:
        kind = ready.pop()
        del waiting[kind]
        told = list(members[kind])
        for into in before:
            for part, inside in leading_parts(into, told, kinds):
                if len(inside) < len(members[part]):
                    split_off(kinds, members, part, inside)
                    smaller = len(members) - 1
                    if part not in waiting and len(members[part]) < len(inside):
                        smaller = part
                    waiting[smaller] = True
                    ready.append(smaller)
    return kinds


def members_of(kinds):
    """For each kind its nodes, as keys."""
    members = [{} for kind in range(max(kinds) + 1)]
    for node, kind in enumerate(kinds):
        members[kind][node] = True
    return members


def nodes_before(steps):
    """For each place of a block, for each node, the nodes that have it there."""
    before = [[[] for nexts in steps] for place in steps[0]]
    for node, nexts in enumerate(steps):
        for place, after in enumerate(nexts):
            before[place][after].append(node)
    return before


def leading_parts(into, told, kinds):
    """The list of the tuples of a kind and those of its nodes that lead into the told ones, by one place."""
    parts = {}
    for after in told:
        for node in into[after]:
            parts.setdefault(kinds[node], []).append(node)
    return list(parts.items())


def split_off(kinds, members, kind, inside):
    """Makes some nodes of a kind a new kind, the last one."""
    for node in inside:
        del members[kind][node]
        kinds[node] = len(members)
    members.append({node: True for node in inside})


def folded(walk, marks, kinds):
    """The picture that has a letter for each kind of nodes, with their mark as its shade, named by their first ways.

    Nodes stand by their first ways, and the first way of a kind is that of its first node.
    """
    firsts = {}
    for node, kind in enumerate(kinds):
        firsts.setdefault(kind, node)
    steps = walk.steps
    if len(firsts) < len(kinds):
        names = {kind: name for name, kind in enumerate(firsts)}
        letters = [names[kind] for kind in kinds]
        steps = [[letters[inner] for inner in steps[node]] for node in firsts.values()]
    base = walk.base
    rows = [(first, first + base) for first in range(0, base * base, base)]
    blocks = []
    for step in steps:
        block = tuple(step)
        blocks.append(tuple([block[first:behind] for first, behind in rows]))
    return ((base, tuple([marks[node] for node in firsts.values()]), tuple(blocks)), 0)
