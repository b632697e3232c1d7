"""The least of the pictures that are alike."""

from everydepth.pictures import check_book, check_picture, shades_of
from everydepth.walks import Walk, flat_blocks, folded, merged

# Up to this depth what is asked of a few letters is told sooner than which of them are alike.
SOON = 4


def classes(book):
    """The list, by their first letters, of the ascending lists of the letters whose pictures are alike."""
    check_book(book)
    found = {}
    for letter, kind in enumerate(merged(flat_blocks(book), list(book[1]))):
        found.setdefault(kind, []).append(letter)
    return list(found.values())


def least(picture):
    """The alike picture with the fewest letters, named by their first ways."""
    check_picture(picture)
    return least_picture(picture)


def least_picture(picture):
    """The least picture that is alike what is known to be a picture, but for the number of its letters."""
    walk = Walk([picture])
    return least_of(walk, shades_of(walk, picture))


def fewest(picture, depth):
    """A picture that is alike, with the fewest letters where that saves time: at great depths, or ALL (None)."""
    if depth is not None and depth <= SOON:
        return picture
    walk = Walk([picture])
    marks = shades_of(walk, picture)
    all_come = len(walk.nodes) == len(picture[0][1])
    # Letters with unlike shades are not alike.
    if all_come and len(set(marks)) == len(marks):
        return picture
    kinds = merged(walk.steps, marks)
    if all_come and max(kinds) + 1 == len(kinds):
        return picture
    return folded(walk, marks, kinds)


def least_of(walk, marks):
    """The least picture that has at each cell, of all depths, the mark of the node there as its shade."""
    return folded(walk, marks, merged(walk.steps, marks))


def is_least(picture):
    """True if a picture is equal to its least one, otherwise False."""
    return least(picture) == picture


def telling_depth(book):
    """The least depth up to which all pictures of a book are unlike that are not alike."""
    check_book(book)
    steps = flat_blocks(book)
    kinds = list(book[1])
    finer = told_apart(steps, kinds)
    depth = 0
    while len(set(finer)) > len(set(kinds)):
        kinds = finer
        finer = told_apart(steps, kinds)
        depth += 1
    return depth


def told_apart(steps, kinds):
    """For each letter a number of its kind and of those in its block: its kind at one more depth."""
    numbers = {}
    found = []
    for kind, nexts in zip(kinds, steps):
        mark = (kind, tuple([kinds[after] for after in nexts]))
        found.append(numbers.setdefault(mark, len(numbers)))
    return found
