"""What stands beside what: neighbours, rims and borders, and pieces less holes."""

from everydepth.patches import OUTSIDE, explored
from everydepth.pictures import check_depth, check_picture, check_shade, check_shades
from everydepth.sums import Sums


def beside(picture, depth, one, other):
    """The number of places where a cell of the one shade stands directly left of one of the other."""
    check_neighbours(picture, depth, one, other)
    return weighed(explored(picture, 1, 2, False, depth), depth, lambda shades: shades == [one, other])


def above(picture, depth, one, other):
    """The number of places where a cell of the one shade stands directly above one of the other."""
    check_neighbours(picture, depth, one, other)
    return weighed(explored(picture, 2, 1, False, depth), depth, lambda shades: shades == [one, other])


def rim(picture, depth, shade):
    """The number of sides of cells of a shade on the rim of the sheet."""
    check_picture(picture)
    check_depth(depth)
    check_shade(shade)
    return sides(picture, depth, lambda shades: shade in shades and OUTSIDE in shades)


def border(picture, depth, shade):
    """The number of sides of cells of a shade on the rim, or where the neighbour has another shade."""
    check_picture(picture)
    check_depth(depth)
    check_shade(shade)
    return sides(picture, depth, lambda shades: shades.count(shade) == 1 and len(shades) == 2)


def pieces_less_holes(picture, depth, shades, corners):
    """The number of pieces of the cells with some shades, less that of their holes."""
    check_picture(picture)
    check_depth(depth)
    check_shades(shades)
    # Where pieces are joined by corners, windows over the rim tell of them, too.
    return weighed(explored(picture, 2, 2, corners, depth), depth, pieces_weight(shades, corners))


def first_unlike_pieces(one, other, shades, corners):
    """None or the least depth at which two pictures do not have as many pieces less holes."""
    check_picture(one)
    check_picture(other)
    check_shades(shades)
    both = [explored(picture, 2, 2, corners, None) for picture in (one, other)]
    sums, starts = sums_of(both, pieces_weight(shades, corners))
    return sums.first_unlike(starts[0], starts[1])


def sides(picture, depth, weight):
    """How much all sides of cells weigh together: a side lies between two cells, or one and what is outside."""
    across = weighed(explored(picture, 1, 2, True, depth), depth, weight)
    return across + weighed(explored(picture, 2, 1, True, depth), depth, weight)


def pieces_weight(inside, corners):
    """The function that tells of the shades of a patch how much it counts for pieces less holes.

    Without corners these are cells less pairs of neighbours plus full windows of two by two; with
    corners windows with a cell in them less sides plus cells. A patch of two counts against the others.
    """
    def weight(shades):
        found = [shade for shade in shades if shade in inside]
        if not found or len(found) < len(shades) and not corners:
            return 0
        return -1 if len(shades) == 2 else 1
    return weight


def weighed(patches, depth, weight):
    """How much all patches in the sheet of a depth weigh together."""
    sums, starts = sums_of([patches], weight)
    return sums.number(starts[0], depth)


def sums_of(several, weight):
    """The sums that tell how much the patches of several pictures weigh, and for each of these the list of starts."""
    children = []
    weights = []
    starts = []
    for patches in several:
        first = len(children)
        starts.append([first + node for node in patches.starts])
        children.extend([[first + child for child in row] for row in patches.children])
        weights.extend([int(weight(patches.shades_of(patch))) for patch in patches.nodes])
    return Sums(children, weights), starts


def check_neighbours(picture, depth, one, other):
    """Raises the errors of a picture, a depth and two shades."""
    check_picture(picture)
    check_depth(depth)
    check_shade(one)
    check_shade(other)
