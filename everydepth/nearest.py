"""The cells of a shade that are nearest to a place in reading order, and the lines with the first and the last ones.

Which letters have a cell of the shade in their sheets, or on one line of these, is all that must be
known.
"""

from everydepth.cells import figures_of, side_of
from everydepth.linemasks import LineMasks, all_figures, number_of_figures

# Sheets with so many rows, which have so many figures at most, are soon looked at row by row.
FEW_LINES = 16
FEW_FIGURES = 4


def figures_beside(figure, base, last):
    """The list of the figures behind one, or backwards of those ahead of it if the last one is asked for."""
    return list(range(figure - 1, -1, -1)) if last else list(range(figure + 1, base))


def goals_of(picture, shade):
    """The set of the letters of a picture that have a shade."""
    return sum([1 << letter for letter, own in enumerate(picture[0][1]) if own == shade])


def frame_of(picture, depth, shade):
    """The least rectangle that has all cells of a shade, None if there is no such cell."""
    base, shades, blocks = picture[0]
    if shade not in shades:
        return None
    if has_few_lines(base, depth):
        return frame_line_by_line(picture, depth, shade)
    start = 1 << picture[1]
    rows = LineMasks(base, blocks)
    layers = rows.with_goals(goals_of(picture, shade), depth)
    if not layers[-1] & start:
        return None
    columns = LineMasks(base, [tuple(zip(*block)) for block in blocks])
    top, left, last_row, last_column = [
        number_of_figures(base, lines.end_figures(start, layers, last)[0])
        for last in (False, True) for lines in (rows, columns)]
    return (top, left, last_row + 1, last_column + 1)


def has_few_lines(base, depth):
    """Whether a sheet has so few rows that they may be unfolded one by one."""
    return depth <= FEW_FIGURES and side_of(base, depth) <= FEW_LINES


def frame_line_by_line(picture, depth, shade):
    """What frame_of tells, where there are few lines: each is looked at from all four sides on."""
    base = picture[0][0]
    lines = [figures_of(base, depth, line) for line in range(side_of(base, depth))]
    top = first_line_with(picture, shade, row_of_letters, lines)
    if top is None:
        return None
    left = first_line_with(picture, shade, column_of_letters, lines)
    behind = len(lines)
    lines.reverse()
    below = behind - first_line_with(picture, shade, row_of_letters, lines)
    return (top, left, below, behind - first_line_with(picture, shade, column_of_letters, lines))


def first_line_with(picture, shade, told, lines):
    """The place, among lines with such figures, of the first one with a shade, None if there is none."""
    shades = picture[0][1]
    for at, figures in enumerate(lines):
        if shade in [shades[letter] for letter in told(picture, figures)]:
            return at
    return None


def row_of_letters(picture, figures):
    """The list of the letters in the row of a sheet with such figures."""
    blocks = picture[0][2]
    letters = [picture[1]]
    for i in figures:
        letters = [inner for letter in letters for inner in blocks[letter][i]]
    return letters


def column_of_letters(picture, figures):
    """The like for a column."""
    blocks = picture[0][2]
    letters = [picture[1]]
    for j in figures:
        letters = [row[j] for letter in letters for row in blocks[letter]]
    return letters


def nearest_cell(picture, depth, shade, place, last):
    """The place of the first cell of a shade behind a place, or of the last one ahead of it; None if there is none."""
    base, shades, blocks = picture[0]
    if shade not in shades:
        return None
    if has_few_lines(base, depth):
        return nearest_row_by_row(picture, depth, shade, place, last)
    goals = goals_of(picture, shade)
    rows, columns = figures_of(base, depth, place[0]), figures_of(base, depth, place[1])
    lines = LineMasks(base, blocks)
    path = [picture[1]]
    for i, j in zip(rows, columns):
        path.append(blocks[path[-1]][i][j])
    found = nearest_in_row(lines, goals, path, rows, columns, last)
    if found is not None:
        return (place[0], number_of_figures(base, found))
    rows = nearest_row(lines, goals, path[0], rows, last)
    if rows is None:
        return None
    columns = columns_in_row(lines, path[0], lines.on_line(goals, rows), rows, last)
    return (number_of_figures(base, rows), number_of_figures(base, columns))


def nearest_row_by_row(picture, depth, shade, place, last):
    """What nearest_cell tells, where there are few rows: they are unfolded from that of the place on."""
    base, shades, _ = picture[0]
    row, column = place
    behind = side_of(base, depth)
    for line in list(range(row, -1, -1)) if last else list(range(row, behind)):
        found = [shades[letter] for letter in row_of_letters(picture, figures_of(base, depth, line))]
        if last:
            if line == row:
                found = found[:column]
            if shade in found:
                found.reverse()
                return (line, len(found) - 1 - found.index(shade))
        else:
            first = column if line == row else 0
            if shade in found[first:]:
                return (line, found.index(shade, first))
    return None


def nearest_in_row(lines, goals, path, rows, columns, last):
    """The figures of the column of the nearest cell in the row of a place, None if there is none.

    path has the letters of the blocks that the place is in, from the whole sheet down to its cell.
    """
    layers = [goals]
    for at in reversed(range(len(rows))):
        line = lines.lines[path[at]][rows[at]]
        for j in figures_beside(columns[at], lines.base, last):
            if (layers[-1] >> line[j]) & 1:
                below = columns_in_row(lines, line[j], layers, rows[at + 1:], last)
                return columns[:at] + [j] + below
        layers.append(lines.ahead(rows[at], layers[-1]))
    return None


def columns_in_row(lines, letter, layers, rows, last):
    """The figures of the first column, or of the last one, with a goal in the row with these figures; it has one.

    letter is that of the sheet; layers are what on_line returns, of the figures of this row.
    """
    found = []
    sequence = all_figures(lines.base, last)
    for i, goals in zip(rows, layers[len(rows) - 1::-1]):
        line = lines.lines[letter][i]
        for j in sequence:
            if (goals >> line[j]) & 1:
                break
        found.append(j)
        letter = line[j]
    return found


def nearest_row(lines, goals, letter, rows, last):
    """The figures of the nearest row, behind a row or ahead of it, that has a goal; None if there is none."""
    strips = [1 << letter]
    for i in rows:
        strips.append(lines.behind(strips[-1], i))
    layers = lines.with_goals(goals, len(rows))
    for at in reversed(range(len(rows))):
        goals = layers[len(rows) - 1 - at]
        for i in figures_beside(rows[at], lines.base, last):
            inner = lines.behind(strips[at], i) & goals
            if inner:
                below, _ = lines.end_figures(inner, layers[:len(rows) - at], last)
                return rows[:at] + [i] + below
    return None
