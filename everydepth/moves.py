"""Two sheets, one of them moved: what lies over what, and which moves leave a sheet as it is."""

from everydepth.carries import CARRIES, Overlay, move_keys
from everydepth.cells import shade_rows, side_of
from everydepth.errors import InvalidMove, anew
from everydepth.figures import end_place, leading, reached
from everydepth.least import fewest
from everydepth.masks import united
from everydepth.pictures import check_depth, check_picture, check_two, is_int, is_tuple_of

SHADES = 4


def pairs_at(one, other, depth, move):
    """In row s and column t how many cells of shade s of the one sheet lie over one of shade t of the other one."""
    check_moved(one, other, depth, move)
    if is_beyond(one[0][0], depth, move):
        return ((0,) * SHADES,) * SHADES
    return counted_pairs(one, other, depth, move, [plain_carries(move)])


def round_pairs(one, other, depth, move):
    """The same, rows and columns being taken modulo the side."""
    check_moved(one, other, depth, move)
    # Carries that go to higher figures are lost.
    return counted_pairs(one, other, depth, move, list(range(CARRIES)))


def agreement(one, other, depth, move):
    """How many cells of the one sheet lie over one of the same shade of the other one."""
    pairs = pairs_at(one, other, depth, move)
    return sum([pairs[shade][shade] for shade in range(SHADES)])


def unlike_at(one, other, depth, move):
    """The first place of the one sheet that lies over one of another shade, None if there is none."""
    check_moved(one, other, depth, move)
    if is_beyond(one[0][0], depth, move):
        return None
    return first_unlike_place(overlay_of(one, other, depth), depth, move, [plain_carries(move)])


def round_unlike_at(one, other, depth, move):
    """The same, rows and columns being taken modulo the side."""
    check_moved(one, other, depth, move)
    return first_unlike_place(overlay_of(one, other, depth), depth, move, list(range(CARRIES)))


def moved_parting(one, other, move):
    """None if at ALL depths no place lies over one of another shade, else the first (depth, row, column) that does."""
    check_two(one, other)
    check_move(move)
    overlay = overlay_of(one, other, None)
    # No place lies over another one ahead of the depth with a side greater than the move.
    lowest = 0
    side = 1
    while side <= max(abs(move[0]), abs(move[1])):
        lowest += 1
        side = side * overlay.base
    # All figures ahead of those of this depth are told by one key: 0, or where the move is below 0 the highest one.
    keys = move_keys(overlay.base, lowest + 1, move)
    # Most pictures part soon, so few depths are tried ahead of all that tell.
    for most in (1, 3, overlay.size):
        layers = some_layers(overlay, keys[0], 1 << overlay.start(plain_carries(move)), most)
        found = parting_behind(overlay, keys, layers)
        if found is not None:
            more, row, column = found
            return (lowest + more, row, column)
    return None


def parting_behind(overlay, keys, layers):
    """The tuple (more, row, column): the first of the layers of which the lower figures part, and where they do.

    The first key is that of all figures between the layers, the others are those of the lower
    figures. None if they part behind none of the layers.
    """
    nodes = united(layers)
    levels = overlay.levels(keys[1:], nodes)
    goals = overlay.unlike(reached(levels, nodes)[-1])
    ahead = leading(levels, nodes, goals)[0]
    for more, nodes in enumerate(layers):
        if nodes & ahead:
            upper = [overlay.level(keys[0], 0)] * more
            row, column = end_place(upper + levels, layers[0], goals, False)
            return (more, row, column)
    return None


def round_moves(picture, depth):
    """The ascending list of the moves, both from 0 to below the side, that leave the round sheet as it is."""
    check_picture(picture)
    check_depth(depth)
    rows = ["".join([str(shade) for shade in row]) for row in shade_rows(picture, depth)]
    found = []
    for down in range(len(rows)):
        others = [row + row for row in rows[down:] + rows[:down]]
        found.extend([(down, right) for right in range(len(rows)) if lie_over(rows, others, right)])
    return found


def lie_over(rows, others, right):
    """Whether each of some texts is what stands from a place on in the other one."""
    for row, other in zip(rows, others):
        if not other.startswith(row, right):
            return False
    return True


def overlay_of(one, other, depth):
    """The letters of two pictures, or of ones that are alike, over one another at a depth, or at ALL if it is None."""
    return Overlay(fewest(one, depth), fewest(other, depth))


def is_beyond(base, depth, move):
    """Whether a move leads out of the sheet from each place."""
    return max(abs(move[0]), abs(move[1])) >= side_of(base, depth)


def plain_carries(move):
    """The number of the pair of carries with which a move less than the side begins: one where it is below 0."""
    return 2 * int(move[0] < 0) + int(move[1] < 0)


def counted_pairs(one, other, depth, move, carries):
    """The numbers of the pairs of shades, as pairs_at tells them, of what begins with some pairs of carries."""
    one, other = fewest(one, depth), fewest(other, depth)
    numbers = Overlay(one, other).numbers(move_keys(one[0][0], depth, move), carries)
    pairs = [[0] * SHADES for _ in range(SHADES)]
    at = 0
    for shade in one[0][1]:
        row = pairs[shade]
        for other_shade in other[0][1]:
            row[other_shade] += numbers[at]
            at += 1
    return tuple([tuple(row) for row in pairs])


def first_unlike_place(overlay, depth, move, carries):
    """The first place over one of another shade, of what begins with some pairs of carries; None if there is none."""
    nodes = united([1 << overlay.start(carry) for carry in carries])
    levels = overlay.levels(move_keys(overlay.base, depth, move), nodes)
    return end_place(levels, nodes, overlay.unlike(reached(levels, nodes)[-1]), False)


def some_layers(overlay, key, start, most):
    """The list of the sets of nodes that come behind figures with one key, at most so many, up to where no new come."""
    layers = [start]
    seen = start
    nodes = start
    while len(layers) < most:
        nodes = overlay.level(key, nodes).behind(nodes)
        if nodes & ~seen == 0:
            break
        layers.append(nodes)
        seen = seen | nodes
    return layers


def check_moved(one, other, depth, move):
    """Raises the errors of two pictures, a depth and a move."""
    check_two(one, other)
    check_depth(depth)
    check_move(move)


def check_move(move):
    """Raises InvalidMove for any object that is none."""
    if not is_move(move):
        raise InvalidMove(anew(move))


def is_move(value):
    """Whether any object is a tuple of two integers."""
    return is_tuple_of(value, 2) and is_int(value[0]) and is_int(value[1])
