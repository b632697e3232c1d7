"""Single rows and columns: what stands on them, where, and whether two of them are alike."""

from everydepth.alike import first_unlike_place
from everydepth.cellnumbers import LineSums, place_on_line
from everydepth.cells import figures_of, side_of
from everydepth.errors import InvalidNumber
from everydepth.fulllines import check_along, check_line
from everydepth.linesets import line_blocks
from everydepth.pictures import check_depth, check_picture, check_shade, check_shades, check_two
from everydepth.runs import joined, whole_run
from everydepth.sums import Sums

SHADES = 4


def line_counts(picture, depth, along, line):
    """The tuple of the numbers of cells of the four shades on a line."""
    check_on_line(picture, depth, along, line)
    blocks = line_blocks(picture[0], along)
    letters = {picture[1]: 1}
    for figure in figures_of(picture[0][0], depth, line):
        letters = letters_behind(blocks, letters, figure)
    found = [0] * SHADES
    for letter, times in letters.items():
        found[picture[0][1][letter]] += times
    return tuple(found)


def line_cell(picture, depth, along, line, shade, number):
    """The place, on a line, of its cell of a shade with a number from 0 on, None if there are not so many."""
    check_on_line(picture, depth, along, line)
    check_shade(shade)
    if number < 0:
        raise InvalidNumber(number)
    return cell_on_line(picture, depth, along, line, shade, number)


def longest_on(picture, depth, along, line, shades):
    """The tuple (first place, number) of the first longest run of cells with some shades, None if there is none."""
    check_on_line(picture, depth, along, line)
    check_shades(shades)
    blocks = line_blocks(picture[0], along)
    runs = [whole_run(int(shade in shades)) for shade in picture[0][1]]
    side = 1
    for figure in reversed(figures_of(picture[0][0], depth, line)):
        runs = [joined([runs[inner] for inner in lines[figure]], side) for lines in blocks]
        side = side * picture[0][0]
    _, _, first, many = runs[picture[1]]
    return (first, many) if many > 0 else None


def unlike_on(one, other, depth, along, line, other_line):
    """The least place at which a line of the one sheet and one of the other are unlike, None if they are alike."""
    check_two(one, other)
    check_depth(depth)
    check_along(along)
    check_line(one, depth, line)
    check_line(other, depth, other_line)
    base = one[0][0]
    figures = list(zip(figures_of(base, depth, line), figures_of(base, depth, other_line)))
    return first_unlike_on(one, other, along, figures)


def border_parting(one, other, along, last):
    """None if the first, or the last, lines are alike at ALL depths, else the first (depth, place) at which not."""
    check_two(one, other)
    check_along(along)
    found = first_unlike_place(border_machine(one, along, last), border_machine(other, along, last), one[0][0])
    return None if found is None else (found[0], found[2])


def border_counts_unlike(one, other, along, last, shade):
    """The least depth at which those lines do not have as many cells of a shade, None if they do at ALL depths."""
    check_two(one, other)
    check_along(along)
    check_shade(shade)
    children, shades, start = border_machine(one, along, last)
    others, other_shades, other_start = border_machine(other, along, last)
    many = len(children)
    children = children + [[many + inner for inner in block] for block in others]
    sums = Sums(children, [int(own == shade) for own in shades + other_shades])
    return sums.first_unlike([start], [many + other_start])


def letters_behind(blocks, letters, figure):
    """For each letter on a line with one more figure how often it stands there."""
    found = {}
    for letter, times in letters.items():
        for inner in blocks[letter][figure]:
            found[inner] = found.get(inner, 0) + times
    return found


def letters_ahead(picture, depth, row, behind):
    """For each letter how often it stands on a row ahead of a column, that of the first cell behind the row at most."""
    base, _, blocks = picture[0]
    if behind == side_of(base, depth):
        found, letter = {picture[1]: 1}, None
    else:
        found, letter = {}, picture[1]
    for i, j in zip(figures_of(base, depth, row), figures_of(base, depth, behind)):
        found = letters_behind(blocks, found, i)
        if letter is not None:
            line = blocks[letter][i]
            for inner in line[:j]:
                found[inner] = found.get(inner, 0) + 1
            letter = line[j]
    return found


def cell_on_line(picture, depth, along, line, shade, number):
    """What line_cell returns of arguments that are checked."""
    sums = LineSums(line_blocks(picture[0], along))
    marks = [int(own == shade) for own in picture[0][1]]
    return place_on_line(sums, picture[1], marks, figures_of(picture[0][0], depth, line), number)


def first_unlike_on(one, other, along, figures):
    """The least place at which two lines, told by the tuples of both of their figures, are unlike, None if none is."""
    blocks = line_blocks(one[0], along)
    others = line_blocks(other[0], along)
    # From the lowest figures on letters of both are of one kind where what stands on their parts of the lines is alike.
    layers = [(one[0][1], other[0][1])]
    for figure, other_figure in reversed(figures):
        kinds, other_kinds = layers[-1]
        numbers = {}
        layers.append((
            kinds_behind(blocks, kinds, figure, numbers), kinds_behind(others, other_kinds, other_figure, numbers)))
    letter, other_letter = one[1], other[1]
    if layers[-1][0][letter] == layers[-1][1][other_letter]:
        return None
    place = 0
    for (figure, other_figure), (kinds, other_kinds) in zip(figures, layers[-2::-1]):
        inners, other_inners = blocks[letter][figure], others[other_letter][other_figure]
        at = 0
        while kinds[inners[at]] == other_kinds[other_inners[at]]:
            at += 1
        place = place * one[0][0] + at
        letter, other_letter = inners[at], other_inners[at]
    return place


def kinds_behind(blocks, kinds, figure, numbers):
    """For each letter the number of the kinds in a line of its block; numbers keeps them."""
    found = []
    for lines in blocks:
        inner_kinds = tuple([kinds[inner] for inner in lines[figure]])
        found.append(numbers.setdefault(inner_kinds, len(numbers)))
    return found


def border_machine(picture, along, last):
    """The machine of the first, or of the last, lines of all depths: blocks with one row, shades, first node."""
    book, letter = picture
    figure = book[0] - 1 if last else 0
    return ([list(lines[figure]) for lines in line_blocks(book, along)], list(book[1]), letter)


def check_on_line(picture, depth, along, line):
    """Raises the errors of a picture, a depth, a word for lines and the number of a line."""
    check_picture(picture)
    check_depth(depth)
    check_along(along)
    check_line(picture, depth, line)
