"""Which small patterns come about, where and how often."""

from everydepth.errors import InvalidNumber, InvalidPattern, anew
from everydepth.least import fewest
from everydepth.masks import nodes_in, united
from everydepth.patches import Patches, explored
from everydepth.patchlines import PatchLines, end_place_in
from everydepth.pictures import are_shades, check_depth, check_picture, is_tuple_of
from everydepth.sums import Sums, flows_of, numbers_at
from everydepth.walks import leading
from everydepth.windows import Finder, Windows


def comes(picture, pattern):
    """Whether a pattern comes at some depth."""
    return first_depth(picture, pattern) is not None


def first_depth(picture, pattern):
    """The least depth at which a pattern comes, None if there is none."""
    check_picture(picture)
    check_pattern(picture, pattern)
    if is_cell(picture, pattern):
        return 0
    # They stand by the depths at which they first come, and each is looked at ahead of what lies in it.
    patches = Patches(picture, min(len(pattern), 2), min(len(pattern[0]), 2), False)
    finder = Finder(patches, pattern)
    while len(patches.children) < len(patches.nodes):
        node = len(patches.children)
        if finder.begins_in(patches.nodes[node]):
            return patches.depths[node] + 1
        patches.unfold()
    return None


def pattern_at(picture, depth, pattern):
    """Whether a pattern comes at a depth."""
    check_all(picture, depth, pattern)
    if depth == 0:
        return is_cell(picture, pattern)
    patches = patches_of(picture, len(pattern), len(pattern[0]), depth - 1)
    places = Finder(patches, pattern).all_places()
    for node in nodes_at(patches, depth - 1):
        if node in places:
            return True
    return False


def patterns(picture, rows, columns):
    """The ascending list of all patterns with so many rows and columns that come at some depth."""
    check_picture(picture)
    check_size(picture, rows)
    check_size(picture, columns)
    patches = Patches(fewest(picture, None), min(rows, 2), min(columns, 2), False)
    found = Windows(patches, rows, columns).all_in(patches.all_patches())
    if rows == 1 and columns == 1 and cell_of(picture) not in found:
        found = sorted(found + [cell_of(picture)])
    return found


def patterns_at(picture, depth, rows, columns):
    """The ascending list of all patterns with so many rows and columns that come at a depth."""
    check_picture(picture)
    check_depth(depth)
    check_size(picture, rows)
    check_size(picture, columns)
    if depth == 0:
        return [cell_of(picture)] if rows == 1 and columns == 1 else []
    patches = patches_of(picture, rows, columns, depth - 1)
    return Windows(patches, rows, columns).all_in([patches.nodes[node] for node in nodes_at(patches, depth - 1)])


def first_place(picture, depth, pattern):
    """The tuple (row, column) of the first place at which a pattern comes, None if it does not."""
    return place_of(picture, depth, pattern, False)


def last_place(picture, depth, pattern):
    """The tuple (row, column) of the last place at which a pattern comes, None if it does not."""
    return place_of(picture, depth, pattern, True)


def pattern_count(picture, depth, pattern):
    """The number of places at which a pattern comes at a depth."""
    check_all(picture, depth, pattern)
    if depth == 0:
        return 1 if is_cell(picture, pattern) else 0
    children, weights = living_patches(picture, pattern, depth - 1)
    return numbers_at(flows_of(children), weights, depth - 1)[0] if children else 0


def pattern_rule(picture, pattern):
    """The shortest list of fractions by which each number of places, but that at depth 0, comes of those ahead."""
    check_picture(picture)
    check_pattern(picture, pattern)
    children, weights = living_patches(picture, pattern, None)
    return [(times, 1) for times in Sums(children, weights).rule([0])] if children else []


def place_of(picture, depth, pattern, last):
    """The tuple (row, column) of the first, or of the last, place at which a pattern comes, None if it does not."""
    check_all(picture, depth, pattern)
    if depth == 0:
        return (0, 0) if is_cell(picture, pattern) else None
    patches = patches_of(picture, len(pattern), len(pattern[0]), depth - 1)
    places = Finder(patches, pattern).all_places()
    leads = leading(patches.children, places)
    if not leads[0]:
        return None
    # All figures but the lowest ones lead to a patch; by these the pattern lies across it.
    return end_place_in(PatchLines(patches, leads), places, depth - 1, last)


def patches_of(picture, rows, columns, last):
    """The patches of a picture, up to some depth, across which what has so many rows and columns may lie."""
    return explored(picture, min(rows, 2), min(columns, 2), False, last)


def nodes_at(patches, depth):
    """The list of the nodes of the patches that come at exactly this depth."""
    nodes = 1
    inside = {}
    told = {}
    for _ in range(depth):
        if nodes not in inside:
            members = nodes_in(nodes)
            for node in members:
                if node not in told:
                    told[node] = united([1 << child for child in patches.children[node]])
            inside[nodes] = united([told[node] for node in members])
        nodes = inside[nodes]
    return nodes_in(nodes)


def living_patches(picture, pattern, last):
    """For each patch the numbers of those in it, one more depth, and at how many places the pattern begins in each.

    Patches in which it never comes are left out; both lists are empty if the first one is such.
    """
    patches = patches_of(picture, len(pattern), len(pattern[0]), last)
    places = Finder(patches, pattern).all_places()
    leads = leading(patches.children, places)
    if not leads[0]:
        return [], []
    numbers = {}
    for node, own in enumerate(leads):
        if own:
            numbers[node] = len(numbers)
    children = [[numbers[child] for child in patches.children[node] if leads[child]] for node in numbers]
    return children, [len(places.get(node, ())) for node in numbers]


def cell_of(picture):
    """The one pattern of the sheet of depth 0."""
    return ((picture[0][1][picture[1]],),)


def is_cell(picture, pattern):
    """Whether a pattern comes in the sheet of depth 0."""
    return pattern == cell_of(picture)


def check_all(picture, depth, pattern):
    """Raises the errors of a picture, a depth and a pattern."""
    check_picture(picture)
    check_depth(depth)
    check_pattern(picture, pattern)


def check_pattern(picture, pattern):
    """Raises InvalidPattern for any object that is no pattern."""
    if not is_pattern(pattern, picture[0][0] + 1):
        raise InvalidPattern(anew(pattern))


def is_pattern(value, most):
    """Whether any object is a pattern of at most so many rows and columns."""
    if not isinstance(value, tuple) or not 1 <= len(value) <= most:
        return False
    if not isinstance(value[0], tuple) or not 1 <= len(value[0]) <= most:
        return False
    return all([is_tuple_of(row, len(value[0])) and are_shades(row) for row in value])


def check_size(picture, number):
    """Raises InvalidNumber for a number of rows or columns that no pattern has."""
    if not 1 <= number <= picture[0][0] + 1:
        raise InvalidNumber(number)
