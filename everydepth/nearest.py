"""The cells of a shade that are nearest to a place in reading order, and the lines with the first and the last ones.

Which letters have a cell of the shade in their sheets, or on one line of these, is all that must be
known.
"""

from everydepth.cells import figures_of
from everydepth.linemasks import LineMasks, all_figures, number_of_figures


def figures_beside(figure, base, last):
    """The list of the figures behind one, or backwards of those ahead of it if the last one is asked for."""
    return list(range(figure - 1, -1, -1)) if last else list(range(figure + 1, base))


def goals_of(picture, shade):
    """The set of the letters of a picture that have a shade."""
    return sum([1 << letter for letter, own in enumerate(picture[0][1]) if own == shade])


def frame_of(picture, depth, shade):
    """The least rectangle that has all cells of a shade, None if there is no such cell."""
    blocks = picture[0][2]
    start = 1 << picture[1]
    rows = LineMasks(picture[0][0], blocks)
    layers = rows.with_goals(goals_of(picture, shade), depth)
    if not layers[-1] & start:
        return None
    columns = LineMasks(rows.base, [tuple(zip(*block)) for block in blocks])
    top, left, last_row, last_column = [
        number_of_figures(rows.base, lines.end_figures(start, layers, last)[0])
        for last in (False, True) for lines in (rows, columns)]
    return (top, left, last_row + 1, last_column + 1)


def nearest_cell(picture, depth, shade, place, last):
    """The place of the first cell of a shade behind a place, or of the last one ahead of it; None if there is none."""
    base, _, blocks = picture[0]
    goals = goals_of(picture, shade)
    if goals == 0:
        return None
    rows, columns = figures_of(base, depth, place[0]), figures_of(base, depth, place[1])
    lines = LineMasks(base, blocks)
    path = [picture[1]]
    for i, j in zip(rows, columns):
        path.append(blocks[path[-1]][i][j])
    found = nearest_in_row(lines, goals, path, rows, columns, last)
    if found is not None:
        return (place[0], number_of_figures(base, found))
    rows = nearest_row(lines, goals, path[0], rows, last)
    if rows is None:
        return None
    columns = columns_in_row(lines, path[0], lines.on_line(goals, rows), rows, last)
    return (number_of_figures(base, rows), number_of_figures(base, columns))


def nearest_in_row(lines, goals, path, rows, columns, last):
    """The figures of the column of the nearest cell in the row of a place, None if there is none.

    path has the letters of the blocks that the place is in, from the whole sheet down to its cell.
    """
    layers = [goals]
    for at in reversed(range(len(rows))):
        line = lines.lines[path[at]][rows[at]]
        for j in figures_beside(columns[at], lines.base, last):
            if (layers[-1] >> line[j]) & 1:
                below = columns_in_row(lines, line[j], layers, rows[at + 1:], last)
                return columns[:at] + [j] + below
        layers.append(lines.ahead(rows[at], layers[-1]))
    return None


def columns_in_row(lines, letter, layers, rows, last):
    """The figures of the first column, or of the last one, with a goal in the row with these figures; it has one.

    letter is that of the sheet; layers are what on_line returns, of the figures of this row.
    """
    found = []
    sequence = all_figures(lines.base, last)
    for i, goals in zip(rows, layers[len(rows) - 1::-1]):
        line = lines.lines[letter][i]
        for j in sequence:
            if (goals >> line[j]) & 1:
                break
        found.append(j)
        letter = line[j]
    return found


def nearest_row(lines, goals, letter, rows, last):
    """The figures of the nearest row, behind a row or ahead of it, that has a goal; None if there is none."""
    strips = [1 << letter]
    for i in rows:
        strips.append(lines.behind(strips[-1], i))
    layers = lines.with_goals(goals, len(rows))
    for at in reversed(range(len(rows))):
        goals = layers[len(rows) - 1 - at]
        for i in figures_beside(rows[at], lines.base, last):
            inner = lines.behind(strips[at], i) & goals
            if inner:
                below, _ = lines.end_figures(inner, layers[:len(rows) - at], last)
                return rows[:at] + [i] + below
    return None
