"""Pictures made of the shades of others, cell by cell, and solved for one that lacks."""

from everydepth.errors import InvalidTable, TooMany, anew
from everydepth.least import least_of
from everydepth.pictures import MOST_LETTERS, are_shades, check_picture, check_shade, check_two, is_tuple_of, shades_of
from everydepth.partings import first_barred
from everydepth.walks import Walk, folded, merged

SHADES = 4


def put(one, other, table):
    """The least picture whose cell has the shade table[s][t] where the one's has s and the other's t."""
    check_two(one, other)
    check_table(table)
    return put_picture(one, other, table)


def put_picture(one, other, table):
    """What put returns of arguments that are checked."""
    walk = Walk([one, other])
    return small_least_of(walk, [table[s][t] for s, t in shade_pairs(walk, one, other)])


def mapped(picture, shades):
    """The least picture whose cell has shades[s] where the picture's has s."""
    check_picture(picture)
    check_map(shades)
    return mapped_picture(picture, shades)


def mapped_picture(picture, shades):
    """What mapped returns of arguments that are checked."""
    walk = Walk([picture])
    return least_of(walk, [shades[s] for s in shades_of(walk, picture)])


def within(one, other, shade):
    """True if at ALL depths each cell that has the shade in the one has it in the other, otherwise False."""
    return first_without(one, other, shade) is None


def first_without(one, other, shade):
    """None if each cell with the shade in the one has it in the other, else (depth, row, column) of the first not."""
    check_two(one, other)
    check_shade(shade)
    barred = [[s == shade and t != shade for t in range(SHADES)] for s in range(SHADES)]
    return first_barred(one, other, barred)


def solved(one, result, table):
    """The least picture whose cell has the least t with table[s][t] the result's shade, None if some cell has none."""
    check_two(one, result)
    check_table(table)
    walk = Walk([one, result])
    marks = solutions(walk, one, result, table)
    if None in marks:
        return None
    return small_least_of(walk, marks)


def unsolved(one, result, table):
    """None if each cell has a solution, else (depth, row, column) of the first that has none."""
    check_two(one, result)
    check_table(table)
    return first_barred(one, result, [[shade not in row for shade in range(SHADES)] for row in table])


def solutions(walk, one, result, table):
    """For each node the least shade t with table[s][t] the result's shade, None if there is none."""
    marks = []
    for s, wanted in shade_pairs(walk, one, result):
        if wanted in table[s]:
            marks.append(table[s].index(wanted))
        else:
            marks.append(None)
    return marks


def small_least_of(walk, marks):
    """The least picture that has the marks as its shades; TooMany if a book may not have so many letters."""
    kinds = merged(walk.steps, marks)
    count = max(kinds) + 1
    if count > MOST_LETTERS:
        raise TooMany(count)
    return folded(walk, marks, kinds)


def small_least(picture):
    """The least picture that is alike one, perhaps one of more letters than a book may have."""
    walk = Walk([picture])
    return small_least_of(walk, shades_of(walk, picture))


def shade_pairs(walk, one, other):
    """For each node of two pictures the tuple of both shades."""
    return [(one[0][1][a], other[0][1][b]) for a, b in walk.nodes]


def check_table(table):
    """Raises InvalidTable for any object that is no table."""
    if not is_table(table):
        raise InvalidTable(anew(table))


def check_map(shades):
    """Raises InvalidTable for any object that is no map."""
    if not is_map(shades):
        raise InvalidTable(anew(shades))


def is_table(value):
    """Whether any object is a tuple of four tuples of four shades."""
    return is_tuple_of(value, SHADES) and all([is_map(row) for row in value])


def is_map(value):
    """Whether any object is a tuple of four shades."""
    return is_tuple_of(value, SHADES) and are_shades(value)
