"""How many cells of each shade there are: numbers, their remainders, and the linear rules that they keep."""

from everydepth.errors import InvalidNumber
from everydepth.pictures import check_depth, check_picture, check_shade
from everydepth.sums import (
    Sums, deeper, flows_of, numbers_at, relations_between, rest_by_rule, reversed_flows,
)
from everydepth.walks import Walk

SHADES = 4
MOST_PICTURES = 6


def count(picture, depth, shade):
    """The number of cells of a shade in the sheet."""
    check_picture(picture)
    check_depth(depth)
    check_shade(shade)
    return counted(picture, depth)[shade]


def counts(picture, depth):
    """The tuple of the numbers of cells of the four shades in the sheet."""
    check_picture(picture)
    check_depth(depth)
    return tuple(counted(picture, depth))


def counted(picture, depth):
    """The list of the numbers of cells of the four shades in the sheet."""
    letters, children = letters_met(picture)
    starts = [1] + [0] * (len(letters) - 1)
    return by_shade(picture, letters, numbers_at(reversed_flows(flows_of(children)), starts, depth))


def total(picture, depth, shade):
    """The number of cells of a shade in the sheets of the depths from 0 to this one together."""
    check_picture(picture)
    check_depth(depth)
    check_shade(shade)
    letters, children = letters_met(picture)
    # One node more gathers the cells of the shade, depth by depth, and so is one depth late.
    gathers = len(letters)
    flows = flows_of(children) + [[(gathers, 1)]]
    for node, letter in enumerate(letters):
        if picture[0][1][letter] == shade:
            flows[node].append((gathers, 1))
    starts = [1] + [0] * len(letters)
    return numbers_at(reversed_flows(flows), starts, depth + 1)[gathers]


def rest(picture, depth, shade, modulus):
    """The remainder of the number of cells of a shade by a modulus."""
    check_picture(picture)
    check_depth(depth)
    check_shade(shade)
    if modulus < 1:
        raise InvalidNumber(modulus)
    sums, starts = shade_sums([picture], shade)
    found = sums.rule(starts)
    return rest_by_rule(found, sums.numbers(starts, len(found)), depth, modulus)


def rule(picture, shade):
    """The shortest list of fractions by which each number of cells comes of those at as many depths ahead."""
    check_picture(picture)
    check_shade(shade)
    sums, starts = shade_sums([picture], shade)
    return [(times, 1) for times in sums.rule(starts)]


def same_counts(one, other, shade):
    """True if two pictures have as many cells of the shade at ALL depths, otherwise False."""
    return first_unlike_count(one, other, shade) is None


def first_unlike_count(one, other, shade):
    """None or the least depth at which two pictures do not have as many cells of the shade."""
    check_picture(one)
    check_picture(other)
    check_shade(shade)
    sums, starts = shade_sums([one, other], shade)
    return sums.first_unlike(starts[:1], starts[1:])


def relations(picture):
    """The reduced list of the linear relations between the numbers of cells of the four shades."""
    check_picture(picture)
    letters, children = letters_met(picture)
    flows = reversed_flows(flows_of(children))
    numbers = [1] + [0] * (len(letters) - 1)
    rows = []
    # What is 0 at as many depths as there are letters is 0 at all.
    for _ in letters:
        rows.append(by_shade(picture, letters, numbers))
        numbers = deeper(flows, numbers)
    return relations_between(rows, SHADES)


def dependent(pictures, shade):
    """The reduced list of the linear relations between the numbers of cells of a shade in some pictures."""
    for picture in pictures:
        check_picture(picture)
    if not 1 <= len(pictures) <= MOST_PICTURES:
        raise InvalidNumber(len(pictures))
    check_shade(shade)
    sums, starts = shade_sums(pictures, shade)
    return relations_between(sums.single_numbers(starts), len(pictures))


def letters_met(picture):
    """The list of the letters that come, by their first ways, and for each the numbers of those in its block."""
    walk = Walk([picture])
    return walk.nodes, walk.steps


def by_shade(picture, letters, numbers):
    """For each shade the sum of the numbers of the letters that have it."""
    found = [0] * SHADES
    for letter, number in zip(letters, numbers):
        found[picture[0][1][letter]] += number
    return found


def shade_sums(pictures, shade):
    """The sums that tell the cells of a shade in some pictures, and the list of the node of each picture."""
    children = []
    weights = []
    starts = []
    for picture in pictures:
        first = len(children)
        starts.append(first)
        letters, blocks = letters_met(picture)
        for letter, block in zip(letters, blocks):
            children.append([first + child for child in block])
            weights.append(1 if picture[0][1][letter] == shade else 0)
    return Sums(children, weights), starts
