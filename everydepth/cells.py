"""Single cells, small sheets and small parts of great ones."""

from everydepth.errors import InvalidNumber, InvalidPlace
from everydepth.pictures import check_depth, check_picture

MOST_LINES = 20


def letter_at(picture, depth, row, column):
    """The letter of a cell."""
    check_picture(picture)
    check_depth(depth)
    check_place(picture[0][0], depth, row, column)
    return found_letter(picture, depth, row, column)


def shade_at(picture, depth, row, column):
    """The shade of a cell."""
    letter = letter_at(picture, depth, row, column)
    return picture[0][1][letter]


def part(picture, steps, row, column):
    """The picture of the same book with the letter at a cell of the letter sheet of depth steps."""
    letter = letter_at(picture, steps, row, column)
    return (picture[0], letter)


def sheet(picture, depth):
    """The list of the rows of a sheet, lists of shades."""
    check_picture(picture)
    check_depth(depth)
    return shade_rows(picture, depth)


def shade_rows(picture, depth):
    """What sheet returns of arguments that are checked."""
    _, shades, blocks = picture[0]
    rows = [[picture[1]]]
    for _ in range(depth):
        rows = unfolded(blocks, rows)
    return [[shades[letter] for letter in row] for row in rows]


def cut(picture, depth, row, column, rows, columns):
    """The list of the rows, lists of shades, of the rectangle with this first cell."""
    check_picture(picture)
    check_depth(depth)
    check_place(picture[0][0], depth, row, column)
    side = side_of(picture[0][0], depth)
    check_lines(rows, row, side)
    check_lines(columns, column, side)
    shades = picture[0][1]
    found = []
    for line in range(row, row + rows):
        letters = [found_letter(picture, depth, line, place) for place in range(column, column + columns)]
        found.append([shades[letter] for letter in letters])
    return found


def check_place(base, depth, row, column):
    """Raises InvalidPlace for a row and a column that are no cell of the sheet."""
    side = side_of(base, depth)
    if not (0 <= row < side and 0 <= column < side):
        raise InvalidPlace((row, column))


def check_lines(count, first, side):
    """Raises InvalidNumber for a number of lines, from a first one on, that a cut may not have."""
    if not 1 <= count <= MOST_LINES or first + count > side:
        raise InvalidNumber(count)


def side_of(base, depth):
    """The number of the rows, and of the columns, of a sheet."""
    side = 1
    power = base
    while depth > 0:
        if depth % 2 == 1:
            side = side * power
        power = power * power
        depth = depth // 2
    return side


def found_letter(picture, depth, row, column):
    """The letter of a cell that is in the sheet."""
    base, _, blocks = picture[0]
    letter = picture[1]
    for i, j in zip(figures_of(base, depth, row), figures_of(base, depth, column)):
        letter = blocks[letter][i][j]
    return letter


def figures_of(base, depth, number):
    """The list of so many figures of a number, the highest ones first."""
    figures = []
    for _ in range(depth):
        figures.append(number % base)
        number = number // base
    figures.reverse()
    return figures


def unfolded(blocks, rows):
    """The rows of letters with its block in the place of each letter."""
    found = []
    for row in rows:
        for line in range(len(blocks[0])):
            found.append([inner for letter in row for inner in blocks[letter][line]])
    return found
