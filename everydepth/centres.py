"""Where the cells of a shade are as a whole: sums over their rows and columns, their centre and their spread."""

from everydepth.momentsums import deeper_moments, moment_flows, moments_of_cells, moments_of_rectangle
from everydepth.partings import are_alike, machine_of
from everydepth.pictures import check_depth, check_picture, check_shade, check_two, first_depths
from everydepth.rectangles import check_rectangle
from everydepth.sums import fraction


def moments(picture, depth, shade):
    """Of the cells of a shade how many, the sums of rows, columns, their squares, and the products of both."""
    check_picture(picture)
    check_depth(depth)
    check_shade(shade)
    return of_shade(picture, moments_of_cells(picture, depth), shade)


def moments_in(picture, depth, shade, rectangle):
    """The same over the cells of a shade in a rectangle."""
    check_picture(picture)
    check_depth(depth)
    check_shade(shade)
    check_rectangle(picture, depth, rectangle)
    return of_shade(picture, moments_of_rectangle(picture, depth, rectangle), shade)


def centre(picture, depth, shade):
    """The mean row and the mean column of the cells of a shade, two fractions; None if there is none."""
    many, rows, columns, _, _, _ = moments(picture, depth, shade)
    if many == 0:
        return None
    return (fraction(rows, many), fraction(columns, many))


def spread(picture, depth, shade):
    """The mean of the squares of the distances of the cells of a shade from their centre; None if there is none."""
    many, rows, columns, row_squares, column_squares, _ = moments(picture, depth, shade)
    if many == 0:
        return None
    return fraction((row_squares + column_squares) * many - rows * rows - columns * columns, many * many)


def first_unlike_moments(one, other, shade):
    """The least depth at which the moments of a shade are unlike, None if they are the same at ALL depths."""
    check_two(one, other)
    check_shade(shade)
    if are_alike(shade_machine(one, shade), shade_machine(other, shade)):
        return None
    found, others = {one[1]: [1, 0, 0, 0, 0, 0]}, {other[1]: [1, 0, 0, 0, 0, 0]}
    flows, other_flows = moment_flows(one[0][2]), moment_flows(other[0][2])
    for depth in range(telling_depths(one, other)):
        if of_shade(one, found, shade) != of_shade(other, others, shade):
            return depth
        found = deeper_moments(flows, one[0][0], found)
        others = deeper_moments(other_flows, other[0][0], others)
    return None


def telling_depths(one, other):
    """So many depths from 0 on tell whether the moments of two pictures are the same at ALL depths."""
    # Numbers times base ** (2 * n), sums of places times base ** n and those of squares and products keep one linear
    # rule. What the letters keep without places, for each of these three with their own power, is enough together.
    return 3 * (len(first_depths(one)) + len(first_depths(other)))


def of_shade(picture, letters, shade):
    """The tuple of the six sums of all letters of a shade."""
    found = [0, 0, 0, 0, 0, 0]
    for letter, sums in letters.items():
        if picture[0][1][letter] == shade:
            found = [x + y for x, y in zip(found, sums)]
    return tuple(found)


def shade_machine(picture, shade):
    """The letters of a picture as a machine that tells one shade from all others."""
    blocks, shades, start = machine_of(picture)
    return (blocks, [own == shade for own in shades], start)
