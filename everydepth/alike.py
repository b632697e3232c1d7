"""Whether the sheets of two pictures are the same, and where they part."""

from everydepth.orbits import PairOrbit, unlike_pairs
from everydepth.partings import UNLIKE, are_alike, first_barred_place, machine_of
from everydepth.pictures import check_depth, check_two, is_int, is_tuple_of
from everydepth.walks import Walk, flat_blocks


def alike(one, other):
    """True if the sheets of two pictures are the same at ALL depths, otherwise False."""
    check_two(one, other)
    return are_same(one, other)


def parting(one, other):
    """None if two pictures are alike, else (depth, row, column) of the least depth and first cell that are not."""
    check_two(one, other)
    return first_unlike(one, other)


def alike_at(one, other, depth):
    """Whether the sheets of a depth are the same."""
    check_two(one, other)
    check_depth(depth)
    return PairOrbit(one, other).at(depth) & unlike_pairs(one, other) == 0


def alike_from(one, other):
    """The least depth from which on, for ever, the sheets of a depth are the same, None if there is none."""
    check_two(one, other)
    last = PairOrbit(one, other).last_with(unlike_pairs(one, other))
    return None if last is None else last + 1


def closed_pairs(one, other):
    """The ascending list of the pairs of letters that stand at the same cell at some depth."""
    check_two(one, other)
    return sorted(Walk([one, other]).nodes)


def pairs_hold(one, other, value):
    """Whether any object is a list of pairs of letters that shows that two pictures are alike."""
    check_two(one, other)
    if not isinstance(value, list):
        return False
    if not all([is_pair(pair, one, other) for pair in value]):
        return False
    listed = {pair: True for pair in value}
    return (one[1], other[1]) in listed and pairs_closed(listed, one, other)


def are_same(one, other):
    """What alike returns of arguments that are checked."""
    return are_alike(machine_of(one), machine_of(other))


def first_unlike(one, other):
    """What parting returns of arguments that are checked."""
    return first_unlike_place(machine_of(one), machine_of(other), one[0][0])


def first_unlike_place(one, other, base):
    """The like for two machines, whose blocks have rows of so many places."""
    # That machines are alike is soon told, while all of their pairs may be many.
    if are_alike(one, other):
        return None
    return first_barred_place(one, other, UNLIKE, base)


def same_shades(pair, one, other):
    """Whether a letter of the one and one of the other book have the same shade."""
    return one[0][1][pair[0]] == other[0][1][pair[1]]


def is_pair(value, one, other):
    """Whether any object is a tuple of a letter of the one and one of the other book, with the same shade."""
    if not is_tuple_of(value, 2) or not is_int(value[0]) or not is_int(value[1]):
        return False
    if not (0 <= value[0] < len(one[0][1]) and 0 <= value[1] < len(other[0][1])):
        return False
    return same_shades(value, one, other)


def pairs_closed(listed, one, other):
    """Whether with each pair those at the same places of both blocks are keys, too."""
    ones = flat_blocks(one[0])
    others = flat_blocks(other[0])
    for first, second in listed:
        for pair in zip(ones[first], others[second]):
            if pair not in listed:
                return False
    return True
