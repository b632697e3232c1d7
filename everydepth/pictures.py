"""What books and pictures are, which of their letters come, and the checks of what is passed to the package."""

from everydepth.errors import InvalidBook, InvalidDepth, InvalidLetter, InvalidPicture, InvalidShade, Unlike, anew
from everydepth.walks import Walk, folded, last_reached, reached_at, way_to

MOST_LETTERS = 64


def is_book(value):
    """Whether any object is a book."""
    if not is_tuple_of(value, 3):
        return False
    base, shades, blocks = value
    if not is_int(base) or base not in (2, 3, 4):
        return False
    if not isinstance(shades, tuple) or not 1 <= len(shades) <= MOST_LETTERS:
        return False
    if not is_tuple_of(blocks, len(shades)):
        return False
    return all([is_shade(shade) for shade in shades]) and all([is_block(block, base, len(shades)) for block in blocks])


def is_block(value, base, count):
    """Whether any object is a block of a book with so many letters."""
    return is_tuple_of(value, base) and all([is_block_row(row, base, count) for row in value])


def is_block_row(value, base, count):
    """Whether any object is a row of a block of a book with so many letters."""
    return is_tuple_of(value, base) and all([is_int(letter) and 0 <= letter < count for letter in value])


def is_picture(value):
    """Whether any object is a picture."""
    if not is_tuple_of(value, 2):
        return False
    book, letter = value
    return is_book(book) and is_int(letter) and 0 <= letter < len(book[1])


def is_shade(value):
    """Whether any object is a shade."""
    return is_int(value) and 0 <= value <= 3


def is_tuple_of(value, count):
    """Whether any object is a tuple of so many entries."""
    return isinstance(value, tuple) and len(value) == count


def is_int(value):
    """Whether any object is an integer, True and False being none."""
    return isinstance(value, int) and not isinstance(value, bool)


def check_book(book):
    """Raises InvalidBook for any object that is none."""
    if not is_book(book):
        raise InvalidBook(anew(book))


def check_picture(picture):
    """Raises InvalidPicture for any object that is none."""
    if not is_picture(picture):
        raise InvalidPicture(anew(picture))


def check_two(one, other):
    """Raises InvalidPicture for any object that is none, Unlike for two pictures of unlike bases."""
    check_picture(one)
    check_picture(other)
    if other[0][0] != one[0][0]:
        raise Unlike(other[0][0])


def check_shade(shade):
    """Raises InvalidShade for any object that is none."""
    if not is_shade(shade):
        raise InvalidShade(anew(shade))


def check_shades(shades):
    """Raises InvalidShade for any object that is no non-empty ascending tuple of shades."""
    if not isinstance(shades, tuple) or not shades or not all([is_shade(shade) for shade in shades]):
        raise InvalidShade(anew(shades))
    if list(shades) != sorted(set(shades)):
        raise InvalidShade(anew(shades))


def check_letter(picture, letter):
    """Raises InvalidLetter for an integer that is no letter of the book of a picture."""
    if not 0 <= letter < len(picture[0][1]):
        raise InvalidLetter(letter)


def check_depth(depth):
    """Raises InvalidDepth for an integer below 0."""
    if depth < 0:
        raise InvalidDepth(depth)


def coming(picture):
    """The ascending list of the letters that come at some depth."""
    check_picture(picture)
    return sorted([node[0] for node in Walk([picture]).nodes])


def comes_at(picture, letter, depth):
    """Whether a letter comes at a depth."""
    check_picture(picture)
    check_letter(picture, letter)
    check_depth(depth)
    walk = Walk([picture])
    return reached_at(walk.steps, nodes_of(walk, letter), depth)


def first_coming(picture, letter):
    """The least depth at which a letter comes, None if it never does."""
    check_picture(picture)
    check_letter(picture, letter)
    walk = Walk([picture])
    nodes = nodes_of(walk, letter)
    if not nodes:
        return None
    return walk.depths[nodes[0]]


def last_coming(picture, letter):
    """The greatest depth at which a letter comes, None if it never does or if there is no greatest one."""
    check_picture(picture)
    check_letter(picture, letter)
    walk = Walk([picture])
    nodes = nodes_of(walk, letter)
    if not nodes:
        return None
    return last_reached(walk.steps, nodes)


def first_way(picture, letter):
    """The first way of a letter as a list of places (i, j), None if it never comes."""
    check_picture(picture)
    check_letter(picture, letter)
    walk = Walk([picture])
    nodes = nodes_of(walk, letter)
    if not nodes:
        return None
    return way_to(walk, nodes[0])


def nodes_of(walk, letter):
    """The list of the one node, in a walk of one picture, of a letter; empty if it never comes."""
    return [node for node, letters in enumerate(walk.nodes) if letters == (letter,)]


def trimmed(picture):
    """The picture with the letters that come alone, named by their first ways."""
    check_picture(picture)
    walk = Walk([picture])
    return folded(walk, shades_of(walk, picture), list(range(len(walk.nodes))))


def shades_of(walk, picture):
    """For each node of a walk of one picture its shade."""
    return [picture[0][1][letters[0]] for letters in walk.nodes]
