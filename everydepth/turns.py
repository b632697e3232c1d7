"""Pictures turned and mirrored."""

from everydepth.alike import alike
from everydepth.errors import InvalidNumber
from everydepth.pictures import check_picture, check_two

TURNS = 8
QUARTERS = 4


def turned(picture, turn):
    """The picture with each block turned, so that its sheets are turned."""
    check_picture(picture)
    if not 0 <= turn < TURNS:
        raise InvalidNumber(turn)
    return turned_picture(picture, turn)


def turned_picture(picture, turn):
    """What turned returns of arguments that are checked."""
    base, shades, blocks = picture[0]
    return ((base, shades, tuple([turned_rows(block, turn) for block in blocks])), picture[1])


def turned_rows(rows, turn):
    """The rows, tuples, turned."""
    if turn >= QUARTERS:
        rows = tuple([row[::-1] for row in rows])
    for _ in range(turn % QUARTERS):
        upwards = rows[::-1]
        rows = tuple(zip(*upwards))
    return rows


def place_ahead(turn, side, row, column):
    """The tuple (row, column) of the place that a turn brings to this one."""
    for _ in range(turn % QUARTERS):
        row, column = side - 1 - column, row
    if turn >= QUARTERS:
        column = side - 1 - column
    return (row, column)


def symmetries(picture):
    """The ascending list of the turns that leave a picture alike."""
    return onto(picture, picture)


def onto(one, other):
    """The ascending list of the turns behind which the one is alike the other."""
    check_two(one, other)
    return [turn for turn in range(TURNS) if alike(turned(one, turn), other)]
