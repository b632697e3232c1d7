"""Which small patterns come about, where and how often."""

from everydepth.cells import side_of
from everydepth.errors import InvalidNumber, InvalidPattern, anew
from everydepth.livingpatches import LivingPatches
from everydepth.patches import few_letters, patches_of
from everydepth.patchlines import PatchLines, end_place_in
from everydepth.pictures import are_shades, check_depth, check_picture, is_tuple_of
from everydepth.sums import Sums, flows_of, numbers_at
from everydepth.windows import Finder, Windows


def comes(picture, pattern):
    """Whether a pattern comes at some depth."""
    return first_depth(picture, pattern) is not None


def first_depth(picture, pattern):
    """The least depth at which a pattern comes, None if there is none."""
    check_picture(picture)
    check_pattern(picture, pattern)
    if is_cell(picture, pattern):
        return 0
    patches = patches_of(few_letters(picture, 0), len(pattern), len(pattern[0]), False)
    finder = Finder(patches, pattern)
    seen = {patch: True for patch in patches.first_patches}
    ready = patches.first_patches
    depth = 1
    while ready:
        for patch in ready:
            if finder.begins_in(patch):
                return depth
        ready = patches.add_deeper(seen, ready)
        depth += 1
    return None


def pattern_at(picture, depth, pattern):
    """Whether a pattern comes at a depth."""
    check_all(picture, depth, pattern)
    if depth == 0:
        return is_cell(picture, pattern)
    patches = patches_of(few_letters(picture, depth - 1), len(pattern), len(pattern[0]), False)
    come = patches.patches_at(depth - 1)
    return len(Finder(patches, pattern).all_places(come, come)) > 0


def patterns(picture, rows, columns):
    """The ascending list of all patterns with so many rows and columns that come at some depth."""
    check_picture(picture)
    check_size(picture, rows)
    check_size(picture, columns)
    few = few_letters(picture, None)
    if has_one_letter(few):
        return [(few[0][1] * columns,) * rows]
    patches = patches_of(few, rows, columns, False)
    found = Windows(patches, rows, columns).all_in(patches.all_patches())
    if rows == 1 and columns == 1 and cell_of(picture) not in found:
        found = sorted(found + [cell_of(picture)])
    return found


def patterns_at(picture, depth, rows, columns):
    """The ascending list of all patterns with so many rows and columns that come at a depth."""
    check_picture(picture)
    check_depth(depth)
    check_size(picture, rows)
    check_size(picture, columns)
    if depth == 0:
        return [cell_of(picture)] if rows == 1 and columns == 1 else []
    few = few_letters(picture, depth - 1)
    if has_one_letter(few):
        return [(few[0][1] * columns,) * rows] if max(rows, columns) <= side_of(few[0][0], depth) else []
    patches = patches_of(few, rows, columns, False)
    return Windows(patches, rows, columns).all_in(patches.patches_at(depth - 1))


def first_place(picture, depth, pattern):
    """The tuple (row, column) of the first place at which a pattern comes, None if it does not."""
    return place_of(picture, depth, pattern, False)


def last_place(picture, depth, pattern):
    """The tuple (row, column) of the last place at which a pattern comes, None if it does not."""
    return place_of(picture, depth, pattern, True)


def pattern_count(picture, depth, pattern):
    """The number of places at which a pattern comes at a depth."""
    check_all(picture, depth, pattern)
    if depth == 0:
        return 1 if is_cell(picture, pattern) else 0
    few = few_letters(picture, depth - 1)
    if has_one_letter(few):
        rows, columns = even_places(few, depth, pattern)
        return rows * columns
    living = LivingPatches(few, pattern, depth - 1)
    if not living.children:
        return 0
    return numbers_at(flows_of(living.children), [len(places) for places in living.places], depth - 1)[0]


def pattern_rule(picture, pattern):
    """The shortest list of fractions by which each number of places, but that at depth 0, comes of those ahead."""
    check_picture(picture)
    check_pattern(picture, pattern)
    living = LivingPatches(few_letters(picture, None), pattern, None)
    if not living.children:
        return []
    sums = Sums(living.children, [len(places) for places in living.places])
    return [(times, 1) for times in sums.rule([0])]


def place_of(picture, depth, pattern, last):
    """The tuple (row, column) of the first, or of the last, place at which a pattern comes, None if it does not."""
    check_all(picture, depth, pattern)
    if depth == 0:
        return (0, 0) if is_cell(picture, pattern) else None
    few = few_letters(picture, depth - 1)
    if has_one_letter(few):
        rows, columns = even_places(few, depth, pattern)
        if rows == 0 or columns == 0:
            return None
        return (rows - 1, columns - 1) if last else (0, 0)
    living = LivingPatches(few, pattern, depth - 1)
    if not living.children:
        return None
    # All figures but the lowest ones lead to a patch; by these the pattern lies across it.
    return end_place_in(PatchLines(living), living.places, depth - 1, last)


def has_one_letter(picture):
    """Whether a picture has one letter alone, so that all of its cells have one shade."""
    return len(picture[0][1]) == 1


def even_places(picture, depth, pattern):
    """How many rows, and how many columns, of places a pattern has in the sheet of a picture of one letter."""
    rows, columns = len(pattern), len(pattern[0])
    if pattern != (picture[0][1] * columns,) * rows:
        return (0, 0)
    side = side_of(picture[0][0], depth)
    return (max(0, side - rows + 1), max(0, side - columns + 1))


def cell_of(picture):
    """The one pattern of the sheet of depth 0."""
    return ((picture[0][1][picture[1]],),)


def is_cell(picture, pattern):
    """Whether a pattern comes in the sheet of depth 0."""
    return pattern == cell_of(picture)


def check_all(picture, depth, pattern):
    """Raises the errors of a picture, a depth and a pattern."""
    check_picture(picture)
    check_depth(depth)
    check_pattern(picture, pattern)


def check_pattern(picture, pattern):
    """Raises InvalidPattern for any object that is no pattern."""
    if not is_pattern(pattern, picture[0][0] + 1):
        raise InvalidPattern(anew(pattern))


def is_pattern(value, most):
    """Whether any object is a pattern of at most so many rows and columns."""
    if not isinstance(value, tuple) or not 1 <= len(value) <= most:
        return False
    if not isinstance(value[0], tuple) or not 1 <= len(value[0]) <= most:
        return False
    return all([is_tuple_of(row, len(value[0])) and are_shades(row) for row in value])


def check_size(picture, number):
    """Raises InvalidNumber for a number of rows or columns that no pattern has."""
    if not 1 <= number <= picture[0][0] + 1:
        raise InvalidNumber(number)
