"""What lies on slanted lines and ahead of them, and where corner lines part."""

from math import gcd

from everydepth.alike import first_unlike_place
from everydepth.cells import check_place, figures_of, found_letter, side_of
from everydepth.errors import InvalidNumber, InvalidSlant, InvalidSlope, anew
from everydepth.lines import cell_on_line, letters_ahead
from everydepth.pictures import check_depth, check_picture, check_shade, check_two, is_int, is_tuple_of
from everydepth.slopes import NO_CELL, SlantWalk, corner_machine
from everydepth.strips import add_times
from everydepth.sums import Sums

SHADES = 4

# The greatest p, q, down and right.
STEEPEST = 3


def on_slant(picture, depth, slant):
    """The tuple of the numbers of cells of the four shades on a slant."""
    check_slant_at(picture, depth, slant)
    walk = SlantWalk(picture, depth, slant, False)
    numbers = numbers_behind(walk)
    return tuple([walk.of_shade(numbers, shade) for shade in range(SHADES)])


def ahead_of_slant(picture, depth, slant):
    """The tuple of the numbers of cells of the four shades with p * row + q * column less than k."""
    check_slant_at(picture, depth, slant)
    walk = SlantWalk(picture, depth, slant, True)
    found = [0] * SHADES
    for node, times in numbers_behind(walk).items():
        lead, letter = walk.told(node)
        if lead > 0:
            found[walk.shades[letter]] += times
    return tuple(found)


def number_on(picture, depth, slant, shade, row, column):
    """How many cells of a shade on a slant are ahead of a place in reading order."""
    check_slant_at(picture, depth, slant)
    check_shade(shade)
    check_place(picture[0][0], depth, row, column)
    if slant[1] == 0:
        return number_on_row(picture, depth, row_on(slant), shade, (row, column))
    walk = SlantWalk(picture, depth, slant, False)
    above, strip = {}, walk.once()
    for figure, i in zip(walk.figures, figures_of(picture[0][0], depth, row)):
        above = walk.deeper(figure, above)
        for node, times in strip.items():
            for line in walk.inner_rows(figure, node)[:i]:
                add_times(above, line, times)
        strip = strip_behind(walk, figure, strip, i)
    found = walk.of_shade(above, shade)
    place = column_on(slant, row)
    if place is not None and 0 <= place < column and shade_of_cell(picture, depth, row, place) == shade:
        found += 1
    return found


def nth_on(picture, depth, slant, shade, number):
    """The place of the cell of a shade with a number, in reading order on a slant, None if there are not so many."""
    check_slant_at(picture, depth, slant)
    check_shade(shade)
    if number < 0:
        raise InvalidNumber(number)
    if slant[1] == 0:
        return nth_on_row(picture, depth, row_on(slant), shade, number)
    walk = SlantWalk(picture, depth, slant, False)
    tables = walk.tables(shade)
    if walk.first is None or number >= tables[depth][walk.first]:
        return None
    row = 0
    strip = walk.once()
    for figure, numbers in zip(walk.figures, tables[-2::-1]):
        i = 0
        inner_strip = strip_behind(walk, figure, strip, i)
        here = sum([times * numbers[node] for node, times in inner_strip.items()])
        while number >= here:
            number -= here
            i += 1
            inner_strip = strip_behind(walk, figure, strip, i)
            here = sum([times * numbers[node] for node, times in inner_strip.items()])
        row = row * picture[0][0] + i
        strip = inner_strip
    # With another q than 0 a row has one place of the slant at most.
    return (row, column_on(slant, row))


def corner_parting(one, other, slope):
    """None if two sheets have the same shades on a corner line at ALL depths, else the first (depth, t) where not."""
    check_two(one, other)
    check_slope(slope)
    found = first_unlike_place(corner_machine(one, slope), corner_machine(other, slope), one[0][0])
    return None if found is None else (found[0], found[1] // slope[0])


def corner_counts_unlike(one, other, slope, shade):
    """The least depth at which two sheets do not have as many cells of a shade on a corner line, None if never."""
    check_two(one, other)
    check_slope(slope)
    check_shade(shade)
    children, weights, starts = [], [], []
    for picture in (one, other):
        blocks, shades, start = corner_machine(picture, slope)
        first = len(children)
        none = len(blocks) - 1
        starts.append(first + start)
        children.extend([[first + inner for inner in block if inner != none] for block in blocks])
        weights.extend([int(own == shade) for own in shades])
    return Sums(children, weights).first_unlike(starts[:1], starts[1:])


def corner_shades(picture, slope):
    """The ascending tuple of the shades that ever come about on a corner line."""
    check_picture(picture)
    check_slope(slope)
    blocks, shades, start = corner_machine(picture, slope)
    seen = {start: True}
    ready = [start]
    while ready:
        node = ready.pop()
        for inner in blocks[node]:
            if inner not in seen:
                seen[inner] = True
                ready.append(inner)
    return tuple(sorted(set([shades[node] for node in seen if shades[node] != NO_CELL])))


def numbers_behind(walk):
    """For each node of a walk how often it comes behind all figures."""
    numbers = walk.once()
    for figure in walk.figures:
        numbers = walk.deeper(figure, numbers)
    return numbers


def strip_behind(walk, figure, strip, i):
    """For each node how often it comes in a row of the blocks of a strip, by a figure of k and one of the row."""
    found = {}
    for node, times in strip.items():
        add_times(found, walk.inner_rows(figure, node)[i], times)
    return found


def column_on(slant, row):
    """The column of a row that is on a slant whose q is not 0, in the sheet or not; None if there is none."""
    p, q, k = slant
    left = k - p * row
    return left // q if left % q == 0 else None


def row_on(slant):
    """The one row, in the sheet or not, of a slant whose q is 0."""
    return slant[0] * slant[2]


def number_on_row(picture, depth, line, shade, place):
    """How many cells of a shade on a row, in the sheet or not, are ahead of a place in reading order."""
    row, column = place
    side = side_of(picture[0][0], depth)
    if line < 0 or line > row:
        return 0
    letters = letters_ahead(picture, depth, line, side if line < row else column)
    return sum([times for letter, times in letters.items() if picture[0][1][letter] == shade])


def nth_on_row(picture, depth, line, shade, number):
    """The place of the cell of a shade with a number on a row, in the sheet or not, None if there are not so many."""
    if not 0 <= line < side_of(picture[0][0], depth):
        return None
    column = cell_on_line(picture, depth, "row", line, shade, number)
    return None if column is None else (line, column)


def shade_of_cell(picture, depth, row, column):
    """The shade of a cell that is in the sheet."""
    return picture[0][1][found_letter(picture, depth, row, column)]


def check_slant_at(picture, depth, slant):
    """Raises the errors of a picture, a depth and a slant."""
    check_picture(picture)
    check_depth(depth)
    if not is_slant(slant):
        raise InvalidSlant(anew(slant))


def is_slant(value):
    """Whether any object is a slant."""
    if not is_tuple_of(value, 3) or not all([is_int(entry) for entry in value]):
        return False
    p, q, _ = value
    return abs(p) <= STEEPEST and abs(q) <= STEEPEST and gcd(p, q) == 1


def check_slope(slope):
    """Raises InvalidSlope for any object that is none."""
    if not is_slope(slope):
        raise InvalidSlope(anew(slope))


def is_slope(value):
    """Whether any object is a slope."""
    if not is_tuple_of(value, 2) or not is_int(value[0]) or not is_int(value[1]):
        return False
    down, right = value
    return 1 <= down <= STEEPEST and 1 <= right <= STEEPEST and gcd(down, right) == 1
