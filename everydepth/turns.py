"""Pictures turned and mirrored."""

from everydepth.errors import InvalidNumber
from everydepth.partings import are_alike, machine_of
from everydepth.pictures import check_picture, check_two

TURNS = 8
QUARTERS = 4


def turned(picture, turn):
    """The picture with each block turned, so that its sheets are turned."""
    check_picture(picture)
    if not 0 <= turn < TURNS:
        raise InvalidNumber(turn)
    return turned_picture(picture, turn)


def turned_picture(picture, turn):
    """What turned returns of arguments that are checked."""
    base, shades, blocks = picture[0]
    return ((base, shades, tuple([turned_rows(block, turn) for block in blocks])), picture[1])


def turned_rows(rows, turn):
    """The rows, tuples, turned."""
    # Each turn is made of three that are soon done: rows with columns, the first row with the last, left with right.
    if turn % 2 == 1:
        rows = tuple(zip(*rows))
    if turn in (2, 3, 5, 6):
        rows = rows[::-1]
    if turn in (1, 2, 4, 5):
        rows = tuple([row[::-1] for row in rows])
    return rows


def place_ahead(turn, side, row, column):
    """The tuple (row, column) of the place that a turn brings to this one."""
    for _ in range(turn % QUARTERS):
        row, column = side - 1 - column, row
    if turn >= QUARTERS:
        column = side - 1 - column
    return (row, column)


def symmetries(picture):
    """The ascending list of the turns that leave a picture alike."""
    check_picture(picture)
    return turns_onto(picture, picture)


def onto(one, other):
    """The ascending list of the turns behind which the one is alike the other."""
    check_two(one, other)
    return turns_onto(one, other)


def turns_onto(one, other):
    """What onto returns of arguments that are checked."""
    base = one[0][0]
    blocks, shades, start = machine_of(one)
    others = machine_of(other)
    places = tuple([tuple(range(first, first + base)) for first in range(0, base * base, base)])
    found = []
    for turn in range(TURNS):
        sequence = [place for row in turned_rows(places, turn) for place in row]
        turned_blocks = [[block[place] for place in sequence] for block in blocks]
        if are_alike((turned_blocks, shades, start), others):
            found.append(turn)
    return found
