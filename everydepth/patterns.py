"""Which small patterns come about, where and how often."""

from everydepth.errors import InvalidNumber, InvalidPattern, anew
from everydepth.figures import Level, end_place, reached
from everydepth.patches import Patches, crossing
from everydepth.pictures import are_shades, check_depth, check_picture, is_tuple_of
from everydepth.sums import Sums


class Finder:
    """Finds a pattern in the unfoldings of patches, where it lies across all of their seams."""

    def __init__(self, patches, pattern):
        self.patches = patches
        self.pattern = pattern
        self._begins = {}

    def places(self, patch):
        """The list of the places (i, j) at which the pattern begins in a patch."""
        pattern = self.pattern
        width = len(pattern[0])
        size = (len(patch), len(patch[0]))
        if size not in self._begins:
            self._begins[size] = crossing(self.patches.base, patch, len(pattern), width)
        shades = self.patches.unfolded_shades(patch)
        found = [(i, j) for i, j in self._begins[size] if shades[i][j:j + width] == pattern[0]]
        for line in range(1, len(pattern)):
            found = [(i, j) for i, j in found if shades[i + line][j:j + width] == pattern[line]]
        return found


def comes(picture, pattern):
    """Whether a pattern comes at some depth."""
    return first_depth(picture, pattern) is not None


def first_depth(picture, pattern):
    """The least depth at which a pattern comes, None if there is none."""
    check_picture(picture)
    check_pattern(picture, pattern)
    if is_cell(picture, pattern):
        return 0
    patches = patches_of(picture, len(pattern), len(pattern[0]), None)
    finder = Finder(patches, pattern)
    # They stand by the depths at which they first come.
    for patch, depth in zip(patches.nodes, patches.depths):
        if finder.places(patch):
            return depth + 1
    return None


def pattern_at(picture, depth, pattern):
    """Whether a pattern comes at a depth."""
    check_all(picture, depth, pattern)
    if depth == 0:
        return is_cell(picture, pattern)
    patches = patches_of(picture, len(pattern), len(pattern[0]), depth - 1)
    finder = Finder(patches, pattern)
    for patch in patches_at(patches, depth - 1):
        if finder.places(patch):
            return True
    return False


def patterns(picture, rows, columns):
    """The ascending list of all patterns with so many rows and columns that come at some depth."""
    check_picture(picture)
    check_size(picture, rows)
    check_size(picture, columns)
    patches = patches_of(picture, rows, columns, None)
    found = all_across(patches, patches.nodes, rows, columns)
    if rows == 1 and columns == 1:
        found[cell_of(picture)] = True
    return sorted(found)


def patterns_at(picture, depth, rows, columns):
    """The ascending list of all patterns with so many rows and columns that come at a depth."""
    check_picture(picture)
    check_depth(depth)
    check_size(picture, rows)
    check_size(picture, columns)
    if depth == 0:
        return [cell_of(picture)] if rows == 1 and columns == 1 else []
    patches = patches_of(picture, rows, columns, depth - 1)
    return sorted(all_across(patches, patches_at(patches, depth - 1), rows, columns))


def first_place(picture, depth, pattern):
    """The tuple (row, column) of the first place at which a pattern comes, None if it does not."""
    return place_of(picture, depth, pattern, False)


def last_place(picture, depth, pattern):
    """The tuple (row, column) of the last place at which a pattern comes, None if it does not."""
    return place_of(picture, depth, pattern, True)


def pattern_count(picture, depth, pattern):
    """The number of places at which a pattern comes at a depth."""
    check_all(picture, depth, pattern)
    if depth == 0:
        return 1 if is_cell(picture, pattern) else 0
    return pattern_sums(picture, pattern, depth - 1).number([0], depth - 1)


def pattern_rule(picture, pattern):
    """The shortest list of fractions by which each number of places, but that at depth 0, comes of those ahead."""
    check_picture(picture)
    check_pattern(picture, pattern)
    return [(times, 1) for times in pattern_sums(picture, pattern, None).rule([0])]


def place_of(picture, depth, pattern, last):
    """The tuple (row, column) of the first, or of the last, place at which a pattern comes, None if it does not."""
    check_all(picture, depth, pattern)
    if depth == 0:
        return (0, 0) if is_cell(picture, pattern) else None
    patches = patches_of(picture, len(pattern), len(pattern[0]), depth - 1)
    # All figures but the lowest ones lead to a patch; by these the pattern lies across it, which is the one goal.
    finder = Finder(patches, pattern)
    lowest = Level(patches.base)
    for node, patch in enumerate(patches.nodes):
        cells = [0] * (patches.base * patches.base)
        for i, j in finder.places(patch):
            cells[i * patches.base + j] = 1
        lowest.fill(node, cells)
    return end_place([level_of(patches)] * (depth - 1) + [lowest], 1, 1, last)


def patches_of(picture, rows, columns, last):
    """The patches of a picture, up to some depth, across which what has so many rows and columns may lie."""
    return Patches(picture, min(rows, 2), min(columns, 2), False, last)


def patches_at(patches, depth):
    """The list of the patches that come at exactly this depth."""
    nodes = reached([level_of(patches)] * depth, 1)[-1]
    return [patch for node, patch in enumerate(patches.nodes) if (nodes >> node) & 1]


def level_of(patches):
    """The level that leads from each patch to those in it at one more depth."""
    level = Level(patches.base)
    for node, steps in enumerate(patches.steps):
        cells = [0] * (patches.base * patches.base)
        for place, child in steps:
            cells[place] = cells[place] | (1 << child)
        level.fill(node, cells)
    return level


def all_across(patches, nodes, rows, columns):
    """All patterns with so many rows and columns in the unfoldings of some patches, across them, as keys."""
    places = {}
    found = {}
    for patch in nodes:
        size = (len(patch), len(patch[0]))
        if size not in places:
            places[size] = crossing(patches.base, patch, rows, columns)
        shades = patches.unfolded_shades(patch)
        for i, j in places[size]:
            found[tuple([row[j:j + columns] for row in shades[i:i + rows]])] = True
    return found


def pattern_sums(picture, pattern, last):
    """The sums that tell, for each patch, at how many places of its sheets, one depth more, a pattern comes."""
    patches = patches_of(picture, len(pattern), len(pattern[0]), last)
    finder = Finder(patches, pattern)
    return Sums(patches.children(), [len(finder.places(patch)) for patch in patches.nodes])


def cell_of(picture):
    """The one pattern of the sheet of depth 0."""
    return ((picture[0][1][picture[1]],),)


def is_cell(picture, pattern):
    """Whether a pattern comes in the sheet of depth 0."""
    return pattern == cell_of(picture)


def check_all(picture, depth, pattern):
    """Raises the errors of a picture, a depth and a pattern."""
    check_picture(picture)
    check_depth(depth)
    check_pattern(picture, pattern)


def check_pattern(picture, pattern):
    """Raises InvalidPattern for any object that is no pattern."""
    if not is_pattern(pattern, picture[0][0] + 1):
        raise InvalidPattern(anew(pattern))


def is_pattern(value, most):
    """Whether any object is a pattern of at most so many rows and columns."""
    if not isinstance(value, tuple) or not 1 <= len(value) <= most:
        return False
    if not isinstance(value[0], tuple) or not 1 <= len(value[0]) <= most:
        return False
    return all([is_tuple_of(row, len(value[0])) and are_shades(row) for row in value])


def check_size(picture, number):
    """Raises InvalidNumber for a number of rows or columns that no pattern has."""
    if not 1 <= number <= picture[0][0] + 1:
        raise InvalidNumber(number)
