"""What lies in a rectangle, where the n-th cell of a shade is, and the frame of a shade."""

from everydepth.cells import check_place, side_of
from everydepth.errors import InvalidNumber, InvalidRectangle, anew
from everydepth.figures import Level, end_row
from everydepth.least import fewest
from everydepth.masks import united
from everydepth.pictures import check_depth, check_picture, check_shade, is_int, is_tuple_of
from everydepth.sums import flow_of, flows_of, tables_of
from everydepth.walks import Walk, block_row

SHADES = 4


def in_rectangle(picture, depth, rectangle):
    """The tuple of the numbers of cells of the four shades in a rectangle."""
    check_picture(picture)
    check_depth(depth)
    check_rectangle(picture, depth, rectangle)
    return counted_in(picture, depth, rectangle)


def number_of(picture, depth, shade, row, column):
    """How many cells of a shade are ahead of a place in reading order."""
    check_cell(picture, depth, shade, row, column)
    return number_ahead(picture, depth, shade, row, column)


def nth_cell(picture, depth, shade, number):
    """The place of the cell of a shade with this number in reading order, None if there are not so many."""
    check_picture(picture)
    check_depth(depth)
    check_shade(shade)
    if number < 0:
        raise InvalidNumber(number)
    return place_of_number(picture, depth, shade, number)


def next_cell(picture, depth, shade, row, column):
    """The place of the first cell of a shade at or behind a place in reading order, None if there is none."""
    check_cell(picture, depth, shade, row, column)
    return place_of_number(picture, depth, shade, number_ahead(picture, depth, shade, row, column))


def last_ahead(picture, depth, shade, row, column):
    """The place of the last cell of a shade ahead of a place in reading order, None if there is none."""
    check_cell(picture, depth, shade, row, column)
    number = number_ahead(picture, depth, shade, row, column)
    if number == 0:
        return None
    return place_of_number(picture, depth, shade, number - 1)


def frame(picture, depth, shade):
    """The least rectangle that has all cells of a shade, None if there is no such cell."""
    check_picture(picture)
    check_depth(depth)
    check_shade(shade)
    walk = Walk([picture])
    goals = united([1 << node for node, letter in enumerate(walk.nodes) if picture[0][1][letter] == shade])
    rows = level_of(walk, False)
    top = end_row([rows] * depth, 1, goals, False)
    if top is None:
        return None
    columns = level_of(walk, True)
    left, right = [end_row([columns] * depth, 1, goals, last) for last in (False, True)]
    return (top, left, end_row([rows] * depth, 1, goals, True) + 1, right + 1)


def level_of(walk, mirrored):
    """The level that leads from each node of a walk to those in its block; mirrored, rows are columns."""
    level = Level(walk.base)
    for node, nexts in enumerate(walk.steps):
        cells = [1 << child for child in nexts]
        if mirrored:
            cells = [cells[j * walk.base + i] for i in range(walk.base) for j in range(walk.base)]
        level.fill(node, cells)
    return level


def counted_in(picture, depth, rectangle):
    """The tuple of the numbers of cells of the four shades in a rectangle of the sheet."""
    picture = fewest(picture, depth)
    found = [0] * SHADES
    for letter, times in letters_in(picture, depth, rectangle).items():
        found[picture[0][1][letter]] += times
    return tuple(found)


def number_ahead(picture, depth, shade, row, column):
    """How many cells of a shade are ahead of a place that is in the sheet."""
    side = side_of(picture[0][0], depth)
    rows = counted_in(picture, depth, (0, 0, row, side))
    return rows[shade] + counted_in(picture, depth, (row, 0, row + 1, column))[shade]


def letters_in(picture, depth, rectangle):
    """For each letter in a rectangle how often it stands there."""
    top, left, below, right = rectangle
    if top == below or left == right:
        return {}
    base = picture[0][0]
    row_steps = share_steps(base, depth, top, below)
    column_steps = share_steps(base, depth, left, right)
    # From the whole sheet on; blocks of which the same rows and columns lie in the rectangle go together.
    groups = {((top, below), (left, right)): {picture[1]: 1}}
    flows = {}
    for row_step, column_step in zip(row_steps, column_steps):
        found = {}
        for (rows, columns), letters in groups.items():
            for share, lines in row_step[rows]:
                for other, places in column_step[columns]:
                    together = found.setdefault((share, other), {})
                    add_letters(together, letters, flows.setdefault((lines, places), {}), picture[0], lines, places)
        groups = found
    return groups[((0, 1), (0, 1))]


def share_steps(base, depth, first, behind):
    """How some lines, from the first to ahead of another one, are shared out from the whole side to single lines.

    For each depth it has, for each share that a block has in the lines, the list of the tuples
    (share, parts): its parts from one to ahead of another one have this share of their own.
    """
    sides = [1]
    for _ in range(depth):
        sides.append(sides[-1] * base)
    steps = []
    shares = [(first, behind)]
    for side in sides[-2::-1]:
        step = {share: parts_of(share, base, side) for share in shares}
        shares = list({share: True for row in step.values() for share, parts in row})
        steps.append(step)
    return steps


def parts_of(share, base, side):
    """The list of the tuples (share, parts) of a share of a block whose parts have this side."""
    first, behind = share
    if first == 0 and behind == base * side:
        return [((0, side), (0, base))]
    low, start = divmod(first, side)
    high, last = divmod(behind - 1, side)
    if low == high:
        return [((start, last + 1), (low, low + 1))]
    found = []
    if start > 0:
        found.append(((start, side), (low, low + 1)))
        low += 1
    if last + 1 < side:
        found.append(((0, last + 1), (high, high + 1)))
        high -= 1
    if low <= high:
        found.append(((0, side), (low, high + 1)))
    return found


def add_letters(found, letters, flows, book, lines, places):
    """Adds what stands at some lines and places of the blocks of some letters, as many times; flows keeps it."""
    for letter, times in letters.items():
        if letter not in flows:
            rows = book[2][letter][lines[0]:lines[1]]
            flows[letter] = flow_of([inner for row in rows for inner in row[places[0]:places[1]]])
        for inner, many in flows[letter]:
            found[inner] = found.get(inner, 0) + times * many


def place_of_number(picture, depth, shade, number):
    """The place of the cell of a shade with a number from 0 on, None if there are not so many."""
    picture = fewest(picture, depth)
    walk = Walk([picture])
    marks = [1 if picture[0][1][letter] == shade else 0 for letter in walk.nodes]
    tables = tables_of(flows_of(walk.steps), marks, depth)
    if number >= tables[depth][0]:
        return None
    row, figures, number = row_of_number(walk, tables, number)
    return (row, column_of_number(walk, marks, figures, number))


def row_of_number(walk, tables, number):
    """The row with the cell of a number, its figures, and the number of the cell in the row."""
    row = 0
    figures = []
    strip = {0: 1}
    for numbers in tables[-2::-1]:
        i = 0
        here = strip_number(walk, strip, i, numbers)
        while number >= here:
            number -= here
            i += 1
            here = strip_number(walk, strip, i, numbers)
        row = row * walk.base + i
        figures.append(i)
        deeper_strip = {}
        for node, times in strip.items():
            for child in block_row(walk, node, i):
                deeper_strip[child] = deeper_strip.get(child, 0) + times
        strip = deeper_strip
    return row, figures, number


def strip_number(walk, strip, i, numbers):
    """The sum of the numbers of all nodes in a row of the blocks of the nodes of a strip."""
    return sum([times * sum([numbers[child] for child in block_row(walk, node, i)]) for node, times in strip.items()])


def column_of_number(walk, marks, figures, number):
    """The column of the cell with a number in the row with these figures."""
    tables = [marks]
    for i in reversed(figures):
        numbers = tables[-1]
        tables.append([sum([numbers[child] for child in block_row(walk, node, i)]) for node in range(len(marks))])
    column = 0
    node = 0
    for i, numbers in zip(figures, tables[-2::-1]):
        j = 0
        row = block_row(walk, node, i)
        while number >= numbers[row[j]]:
            number -= numbers[row[j]]
            j += 1
        column = column * walk.base + j
        node = row[j]
    return column


def check_cell(picture, depth, shade, row, column):
    """Raises the errors of a picture, a depth, a shade and a place."""
    check_picture(picture)
    check_depth(depth)
    check_shade(shade)
    check_place(picture[0][0], depth, row, column)


def check_rectangle(picture, depth, rectangle):
    """Raises InvalidRectangle for any object that is no rectangle of the sheet."""
    if not is_rectangle(rectangle, side_of(picture[0][0], depth)):
        raise InvalidRectangle(anew(rectangle))


def is_rectangle(value, side):
    """Whether any object is a rectangle of a sheet with this side."""
    if not is_tuple_of(value, 4) or not all([is_int(entry) for entry in value]):
        return False
    top, left, below, right = value
    return 0 <= top <= below <= side and 0 <= left <= right <= side
