"""Rows and columns all of whose cells have one of some shades."""

from everydepth.cells import figures_of, side_of
from everydepth.errors import InvalidNumber, InvalidWord, anew
from everydepth.linemasks import LineMasks
from everydepth.linesets import LineSets, all_full_lines, line_blocks
from everydepth.masks import nodes_in
from everydepth.pictures import check_depth, check_picture, check_shades, check_two
from everydepth.runs import joined, whole_run
from everydepth.walks import last_reached, merged

WORDS = ("row", "column")

# Sheets with so many rows are soon looked at line by line.
FEW_LINES = 64


def is_within(picture, depth, along, line, shades):
    """Whether each cell of a line has one of some shades."""
    check_picture(picture)
    check_depth(depth)
    check_along(along)
    check_line(picture, depth, line)
    check_shades(shades)
    return all([picture[0][1][letter] in shades for letter in letters_on_line(picture, depth, along, line)])


def lines_within(picture, depth, along, shades):
    """How many rows or columns have no cell but with one of some shades."""
    check_lines_of(picture, depth, along, shades)
    if has_few_lines(picture, depth):
        return len(nodes_in(all_full_lines(picture, depth, along, shades)))
    return LineSets([picture], along, shades).sums().number([0], depth)


def nth_within(picture, depth, along, shades, number):
    """The line with a number among those within some shades, None if there are not so many."""
    check_lines_of(picture, depth, along, shades)
    if number < 0:
        raise InvalidNumber(number)
    if has_few_lines(picture, depth):
        lines = nodes_in(all_full_lines(picture, depth, along, shades))
        return lines[number] if number < len(lines) else None
    sets = LineSets([picture], along, shades)
    tables = sets.tables(depth)
    if number >= tables[depth][0]:
        return None
    line = 0
    node = 0
    for numbers in tables[-2::-1]:
        figure = 0
        while number >= numbers[sets.steps[node][figure]]:
            number -= numbers[sets.steps[node][figure]]
            figure += 1
        line = line * sets.base + figure
        node = sets.steps[node][figure]
    return line


def number_within(picture, depth, along, shades, line):
    """How many of the lines within some shades are ahead of a line."""
    check_lines_of(picture, depth, along, shades)
    check_line(picture, depth, line)
    if has_few_lines(picture, depth):
        return len(nodes_in(all_full_lines(picture, depth, along, shades) & ((1 << line) - 1)))
    sets = LineSets([picture], along, shades)
    tables = sets.tables(depth)
    number = 0
    node = 0
    for figure, numbers in zip(figures_of(sets.base, depth, line), tables[-2::-1]):
        number += sum([numbers[inner] for inner in sets.steps[node][:figure]])
        node = sets.steps[node][figure]
    return number


def first_depth_within(picture, along, shades):
    """The least depth at which there is a line within some shades, None if there is none at ANY depth."""
    check_all_depths(picture, along, shades)
    sets = LineSets([picture], along, shades)
    return min([sets.depths[node] for node in sets.goals()], default=None)


def last_depth_within(picture, along, shades):
    """The greatest depth at which there is a line within some shades, None if there is none, "endless" without end."""
    check_all_depths(picture, along, shades)
    sets = LineSets([picture], along, shades)
    goals = sets.goals()
    if not goals:
        return None
    last = last_reached(sets.steps, goals)
    return "endless" if last is None else last


def longest_within(picture, depth, along, shades):
    """The tuple (first line, how many) of the first longest run of lines within some shades, None if there is none."""
    check_lines_of(picture, depth, along, shades)
    if has_few_lines(picture, depth):
        return longest_run(nodes_in(all_full_lines(picture, depth, along, shades)))
    sets = LineSets([picture], along, shades)
    kinds = merged(sets.steps, sets.full)
    steps = [[] for kind in range(max(kinds) + 1)]
    runs = [whole_run(0) for row in steps]
    for kind, row, full in zip(kinds, sets.steps, sets.full):
        steps[kind] = [kinds[node] for node in row]
        runs[kind] = whole_run(int(full))
    side = 1
    for _ in range(depth):
        runs = [joined([runs[kind] for kind in row], side) for row in steps]
        side = side * sets.base
    _, _, first, many = runs[kinds[0]]
    return (first, many) if many > 0 else None


def lines_unlike(one, other, along, shades):
    """The least depth at which two sheets do not have as many lines within some shades, None if there is none."""
    check_two(one, other)
    check_along(along)
    check_shades(shades)
    sets = LineSets([one, other], along, shades)
    return sets.sums().first_unlike(sets.starts[:1], sets.starts[1:])


def letters_on_line(picture, depth, along, line):
    """The list of the letters that stand on a line."""
    base, _, blocks = picture[0]
    figures = figures_of(base, depth, line)
    if not has_few_lines(picture, depth):
        # At great depths the same sets of letters come again and again.
        masks = LineMasks(base, line_blocks(picture[0], along))
        found = 1 << picture[1]
        for figure in figures:
            found = masks.behind(found, figure)
        return nodes_in(found)
    letters = [picture[1]]
    for figure in figures:
        if along == "row":
            inners = {inner: True for letter in letters for inner in blocks[letter][figure]}
        else:
            inners = {row[figure]: True for letter in letters for row in blocks[letter]}
        letters = list(inners)
    return letters


def has_few_lines(picture, depth):
    """Whether a sheet has so few rows that they may be looked at one by one."""
    return depth <= FEW_LINES and side_of(picture[0][0], depth) <= FEW_LINES


def longest_run(lines):
    """The tuple (first line, how many) of the first longest run of ascending lines, None if there are none."""
    best = None
    first = 0
    for at, line in enumerate(lines):
        if at > 0 and lines[at - 1] + 1 < line:
            first = at
        if best is None or at + 1 - first > best[1]:
            best = (lines[first], at + 1 - first)
    return best


def check_lines_of(picture, depth, along, shades):
    """Raises the errors of a picture, a depth, a word for lines and some shades."""
    check_picture(picture)
    check_depth(depth)
    check_along(along)
    check_shades(shades)


def check_all_depths(picture, along, shades):
    """Raises the errors of a picture, a word for lines and some shades."""
    check_picture(picture)
    check_along(along)
    check_shades(shades)


def check_along(along):
    """Raises InvalidWord for any object that is neither "row" nor "column"."""
    if not isinstance(along, str) or along not in WORDS:
        raise InvalidWord(anew(along))


def check_line(picture, depth, line):
    """Raises InvalidNumber for a number that no line of the sheet has."""
    if not 0 <= line < side_of(picture[0][0], depth):
        raise InvalidNumber(line)
