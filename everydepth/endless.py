"""Pictures that grow: each sheet is the first part of the next one, and all together are one endless sheet."""

from everydepth.alike import first_unlike
from everydepth.carries import Overlay, move_keys
from everydepth.cells import found_letter
from everydepth.errors import InvalidMove, InvalidNumber, InvalidRectangle, NotEndless, Unlike, anew
from everydepth.figures import end_place, reached
from everydepth.least import fewest
from everydepth.masks import united
from everydepth.moves import is_move, parting_behind, some_layers
from everydepth.partings import first_barred
from everydepth.pictures import check_picture, check_shade, is_int, is_tuple_of
from everydepth.rectangles import counted_in

SHADES = 4

# Most pictures part soon: up to this depth each sheet is looked at alone, ahead of all together; where the figures
# of a move are 0 a few depths, ahead of as many as ever bring other letters and carries.
SOON = 4
SOME_LAYERS = (1, 3, 4 * 64 * 64)


def grows(picture):
    """Whether the first place of the block of the letter of a picture holds the letter itself."""
    check_picture(picture)
    return has_itself_first(picture)


def endless_shade(picture, row, column):
    """The shade of a place of the endless sheet."""
    check_endless(picture)
    check_line(row)
    check_line(column)
    depth = figures_needed(picture[0][0], max(row, column))
    return picture[0][1][found_letter(picture, depth, row, column)]


def endless_counts(picture, rectangle):
    """The tuple of the numbers of cells of the four shades in a rectangle of the endless sheet."""
    check_endless(picture)
    if not is_endless_rectangle(rectangle):
        raise InvalidRectangle(anew(rectangle))
    return counted_in(picture, figures_needed(picture[0][0], max(rectangle)), rectangle)


def endless_first(picture, shade):
    """The first place with a shade, in growing order, None if it never comes about."""
    check_endless(picture)
    check_shade(shade)
    found = first_barred(picture, picture, [[s == shade] * SHADES for s in range(SHADES)])
    return None if found is None else found[1:]


def endless_parting(one, other, move):
    """The first place of the one, in growing order, that lies over one of another shade, None if there is none."""
    check_endless(one)
    check_endless(other)
    if other[0][0] != one[0][0]:
        raise Unlike(other[0][0])
    if not is_move(move) or move[0] < 0 or move[1] < 0:
        raise InvalidMove(anew(move))
    return first_unlike_endless(fewest(one, None), fewest(other, None), move)


def squared(picture):
    """Of a picture with base 2 that with base 4 whose sheets are those of twice the depth."""
    check_base(picture, 2)
    return squared_picture(picture)


def squared_parting(one, other):
    """None if the sheets of one, of twice the depth, are those of the other, else the first (depth, row, column)."""
    check_base(one, 2)
    check_base(other, 4)
    return first_unlike(squared_picture(one), other)


def has_itself_first(picture):
    """Whether what is known to be a picture grows."""
    book, letter = picture
    return book[2][letter][0][0] == letter


def figures_needed(base, number):
    """The least depth with a side greater than a number."""
    depth = 0
    while number > 0:
        number = number // base
        depth += 1
    return depth


def squared_picture(picture):
    """What squared returns of an argument that is checked."""
    (_, shades, blocks), letter = picture
    found = []
    for block in blocks:
        rows = []
        for row in block:
            for line in (0, 1):
                rows.append(tuple([inner for outer in row for inner in blocks[outer][line]]))
        found.append(tuple(rows))
    return ((4, shades, tuple(found)), letter)


# Two endless sheets, one of them moved.


def first_unlike_endless(one, other, move):
    """What endless_parting returns of arguments that are checked, of the least pictures or of others."""
    overlay = Overlay(one, other)
    depth = figures_needed(overlay.base, max(move))
    keys = move_keys(overlay.base, depth + 1, move)
    starts = starts_by_depth(overlay, other, move, depth)
    for at in range(min(SOON, depth)):
        place = first_unlike_in_sheet(overlay, keys, starts, at)
        if place is not None:
            return place
    # From this depth on the figures of the move are 0, and all sheets begin with the same nodes.
    for most in SOME_LAYERS:
        layers = some_layers(overlay, keys[0], starts[depth], most)
        ahead = leading_to_unlike(overlay, keys[1:], united(layers), starts)
        for at in range(depth):
            if starts[at] & ahead[at]:
                return first_unlike_in_sheet(overlay, keys, starts, at)
        found = parting_behind(overlay, keys, layers)
        if found is not None:
            return found[1:]
    return None


def first_unlike_in_sheet(overlay, keys, starts, depth):
    """The first place of the sheet of a depth of the one that lies over another shade, None if there is none."""
    levels = overlay.levels(keys[len(keys) - depth:], starts[depth])
    goals = overlay.unlike(reached(levels, starts[depth])[-1])
    return end_place(levels, starts[depth], goals, False)


def leading_to_unlike(overlay, keys, nodes, starts):
    """For each depth, from 0 on, the set of the nodes there that lead to unlike shades behind the lowest figures.

    nodes is the set of those that come at the greatest depth; at each lower one its starts come, too.
    """
    levels = []
    layers = [nodes]
    for at, key in enumerate(keys):
        levels.append(overlay.level(key, layers[-1]))
        layers.append(levels[-1].behind(layers[-1]) | starts[len(keys) - 1 - at])
    ahead = [overlay.unlike(layers[-1])]
    for at in reversed(range(len(keys))):
        ahead.append(levels[at].ahead(layers[at], ahead[-1]))
    return ahead


def starts_by_depth(overlay, other, move, depth):
    """For each depth up to this one the set of the nodes with which the sheet of the one begins.

    It lies over up to four sheets of its depth of the other one: by carries of its rows and columns they are
    that to which the figures of the move ahead of this depth lead, and those behind it.
    """
    base, _, blocks = other[0]
    block = blocks[other[1]]
    letters = [block[0][0], block[0][1], block[1][0], block[1][1]]
    found = [start_set(overlay, letters)]
    for rows, columns in move_figures(base, depth, move):
        letters = [
            inner_letter(base, blocks, letters, rows + row_carry, columns + column_carry)
            for row_carry in (0, 1) for column_carry in (0, 1)]
        found.append(start_set(overlay, letters))
    found.reverse()
    return found


def move_figures(base, depth, move):
    """The list of the tuples of both figures of a move, the highest ones first."""
    return [(key[0][0], key[1][0]) for key in move_keys(base, depth, move)]


def inner_letter(base, blocks, letters, row, column):
    """The letter at a figure of the row and one of the column in four blocks, both may go over to the next one."""
    return blocks[letters[2 * (row // base) + column // base]][row % base][column % base]


def start_set(overlay, letters):
    """The set of the nodes of the letter of the one over four letters, each with its own carries."""
    return united([1 << overlay.node_over(letters[carries], carries) for carries in range(4)])


def is_endless_rectangle(value):
    """Whether any object is a rectangle of an endless sheet."""
    if not is_tuple_of(value, 4) or not all([is_int(entry) for entry in value]):
        return False
    top, left, below, right = value
    return 0 <= top <= below and 0 <= left <= right


def check_endless(picture):
    """Raises InvalidPicture for any object that is none, NotEndless for a picture that does not grow."""
    check_picture(picture)
    if not has_itself_first(picture):
        raise NotEndless(anew(picture))


def check_line(number):
    """Raises InvalidNumber for a row or a column below 0."""
    if number < 0:
        raise InvalidNumber(number)


def check_base(picture, base):
    """Raises InvalidPicture for any object that is none, InvalidNumber for a picture with another base."""
    check_picture(picture)
    if picture[0][0] != base:
        raise InvalidNumber(picture[0][0])
