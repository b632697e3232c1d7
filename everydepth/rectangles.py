"""What lies in a rectangle, where the n-th cell of a shade is, and the frame of a shade."""

from everydepth.adding import Flows
from everydepth.cellnumbers import number_ahead, place_of_number
from everydepth.cells import check_place, found_letter, side_of
from everydepth.errors import InvalidNumber, InvalidRectangle, anew
from everydepth.nearest import frame_of, nearest_cell
from everydepth.pictures import check_depth, check_picture, check_shade, is_int, is_tuple_of
from everydepth.strips import whole_blocks
from everydepth.sums import flows_of, reversed_flows
from everydepth.walks import flat_blocks

SHADES = 4

# Up to this depth blocks are unfolded one by one, which is soon done for few letters.
SOON = 5


def in_rectangle(picture, depth, rectangle):
    """The tuple of the numbers of cells of the four shades in a rectangle."""
    check_picture(picture)
    check_depth(depth)
    check_rectangle(picture, depth, rectangle)
    return counted_in(picture, depth, rectangle)


def number_of(picture, depth, shade, row, column):
    """How many cells of a shade are ahead of a place in reading order."""
    check_cell(picture, depth, shade, row, column)
    return number_ahead(picture, depth, shade, row, column)


def nth_cell(picture, depth, shade, number):
    """The place of the cell of a shade with this number in reading order, None if there are not so many."""
    check_picture(picture)
    check_depth(depth)
    check_shade(shade)
    if number < 0:
        raise InvalidNumber(number)
    return place_of_number(picture, depth, shade, number)


def next_cell(picture, depth, shade, row, column):
    """The place of the first cell of a shade at or behind a place in reading order, None if there is none."""
    check_cell(picture, depth, shade, row, column)
    if picture[0][1][found_letter(picture, depth, row, column)] == shade:
        return (row, column)
    return nearest_cell(picture, depth, shade, (row, column), False)


def last_ahead(picture, depth, shade, row, column):
    """The place of the last cell of a shade ahead of a place in reading order, None if there is none."""
    check_cell(picture, depth, shade, row, column)
    return nearest_cell(picture, depth, shade, (row, column), True)


def frame(picture, depth, shade):
    """The least rectangle that has all cells of a shade, None if there is no such cell."""
    check_picture(picture)
    check_depth(depth)
    check_shade(shade)
    return frame_of(picture, depth, shade)


def counted_in(picture, depth, rectangle):
    """The tuple of the numbers of cells of the four shades in a rectangle of the sheet."""
    (base, shades, blocks), letter = picture
    numbers = [0] * len(blocks)
    flows = None
    for at, layer in enumerate(whole_blocks(blocks, letter, base, depth, rectangle)):
        if at < SOON:
            numbers = in_blocks(blocks, numbers)
        else:
            if flows is None:
                flows = Flows(reversed_flows(flows_of(flat_blocks(picture[0]))))
            numbers = flows.sums(numbers)
        for inner, times in layer.items():
            numbers[inner] += times
    found = [0] * SHADES
    for shade, times in zip(shades, numbers):
        found[shade] += times
    return tuple(found)


def in_blocks(blocks, numbers):
    """For each letter how often it stands in the blocks of letters, of each so many."""
    found = [0] * len(blocks)
    for block, times in zip(blocks, numbers):
        if times != 0:
            for row in block:
                for inner in row:
                    found[inner] += times
    return found


def check_cell(picture, depth, shade, row, column):
    """Raises the errors of a picture, a depth, a shade and a place."""
    check_picture(picture)
    check_depth(depth)
    check_shade(shade)
    check_place(picture[0][0], depth, row, column)


def check_rectangle(picture, depth, rectangle):
    """Raises InvalidRectangle for any object that is no rectangle of the sheet."""
    if not is_rectangle(rectangle, side_of(picture[0][0], depth)):
        raise InvalidRectangle(anew(rectangle))


def is_rectangle(value, side):
    """Whether any object is a rectangle of a sheet with this side."""
    if not is_tuple_of(value, 4) or not all([is_int(entry) for entry in value]):
        return False
    top, left, below, right = value
    return 0 <= top <= below <= side and 0 <= left <= right <= side
