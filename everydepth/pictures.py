"""What books and pictures are, which of their letters come, and the checks of what is passed to the package."""

from everydepth.errors import InvalidBook, InvalidDepth, InvalidLetter, InvalidPicture, InvalidShade, Unlike, anew
from everydepth.orbits import LetterOrbit
from everydepth.walks import Walk, first_way_to, folded

MOST_LETTERS = 64


def is_book(value):
    """Whether any object is a book."""
    return is_shelf(value) and are_shades(value[1]) and are_blocks(value[2], value[0])


def is_shelf(value):
    """Whether any object is a tuple of a base and of two tuples of as many entries, as many as a book may have."""
    if not isinstance(value, tuple) or len(value) != 3:
        return False
    base, shades, blocks = value
    if not isinstance(base, int) or isinstance(base, bool) or not 2 <= base <= 4:
        return False
    if not isinstance(shades, tuple) or not isinstance(blocks, tuple):
        return False
    return 1 <= len(shades) <= MOST_LETTERS and len(blocks) == len(shades)


def are_shades(entries):
    """Whether all entries of a tuple are shades."""
    for entry in entries:
        if entry is True or entry is False or not isinstance(entry, int) or entry < 0 or entry > 3:
            return False
    return True


def are_blocks(entries, base):
    """Whether all entries of a tuple are blocks of a book with as many letters as it has entries."""
    # Each call of the package asks this of all letters of its pictures: so no function is called for each of them.
    many = len(entries)
    for block in entries:
        if not isinstance(block, tuple) or len(block) != base:
            return False
        for row in block:
            if not isinstance(row, tuple) or len(row) != base:
                return False
            for letter in row:
                if letter is True or letter is False or not isinstance(letter, int) or letter < 0 or letter >= many:
                    return False
    return True


def is_picture(value):
    """Whether any object is a picture."""
    if not isinstance(value, tuple) or len(value) != 2:
        return False
    book, letter = value
    # What is soon told goes ahead.
    if not is_shelf(book) or not is_int(letter) or not 0 <= letter < len(book[1]):
        return False
    return are_shades(book[1]) and are_blocks(book[2], book[0])


def is_shade(value):
    """Whether any object is a shade."""
    return is_int(value) and 0 <= value <= 3


def is_tuple_of(value, count):
    """Whether any object is a tuple of so many entries."""
    return isinstance(value, tuple) and len(value) == count


def is_int(value):
    """Whether any object is an integer, True and False being none."""
    return isinstance(value, int) and not isinstance(value, bool)


def check_book(book):
    """Raises InvalidBook for any object that is none."""
    if not is_book(book):
        raise InvalidBook(anew(book))


def check_picture(picture):
    """Raises InvalidPicture for any object that is none."""
    if not is_picture(picture):
        raise InvalidPicture(anew(picture))


def check_two(one, other):
    """Raises InvalidPicture for any object that is none, Unlike for two pictures of unlike bases."""
    check_picture(one)
    check_picture(other)
    if other[0][0] != one[0][0]:
        raise Unlike(other[0][0])


def check_shade(shade):
    """Raises InvalidShade for any object that is none."""
    if not is_shade(shade):
        raise InvalidShade(anew(shade))


def check_shades(shades):
    """Raises InvalidShade for any object that is no non-empty ascending tuple of shades."""
    if not isinstance(shades, tuple) or not shades or not are_shades(shades):
        raise InvalidShade(anew(shades))
    if list(shades) != sorted(set(shades)):
        raise InvalidShade(anew(shades))


def check_letter(picture, letter):
    """Raises InvalidLetter for an integer that is no letter of the book of a picture."""
    if not 0 <= letter < len(picture[0][1]):
        raise InvalidLetter(letter)


def check_depth(depth):
    """Raises InvalidDepth for an integer below 0."""
    if depth < 0:
        raise InvalidDepth(depth)


def coming(picture):
    """The ascending list of the letters that come at some depth."""
    check_picture(picture)
    return sorted(first_depths(picture))


def comes_at(picture, letter, depth):
    """Whether a letter comes at a depth."""
    check_picture(picture)
    check_letter(picture, letter)
    check_depth(depth)
    return (LetterOrbit(picture).at(depth) >> letter) & 1 == 1


def first_coming(picture, letter):
    """The least depth at which a letter comes, None if it never does."""
    check_picture(picture)
    check_letter(picture, letter)
    return first_depths(picture).get(letter)


def last_coming(picture, letter):
    """The greatest depth at which a letter comes, None if it never does or if there is no greatest one."""
    check_picture(picture)
    check_letter(picture, letter)
    last = LetterOrbit(picture).last_with(1 << letter)
    return None if last is None or last < 0 else last


def first_way(picture, letter):
    """The first way of a letter as a list of places (i, j), None if it never comes."""
    check_picture(picture)
    check_letter(picture, letter)
    return first_way_to(picture, letter)


def first_depths(picture):
    """For each letter that comes the least depth at which it does."""
    blocks = picture[0][2]
    depths = {picture[1]: 0}
    ready = [picture[1]]
    done = 0
    while done < len(ready):
        letter = ready[done]
        done += 1
        for row in blocks[letter]:
            for inner in row:
                if inner not in depths:
                    depths[inner] = depths[letter] + 1
                    ready.append(inner)
    return depths


def trimmed(picture):
    """The picture with the letters that come alone, named by their first ways."""
    check_picture(picture)
    walk = Walk([picture])
    return folded(walk, shades_of(walk, picture), list(range(len(walk.nodes))))


def shades_of(walk, picture):
    """For each node of a walk of one picture its shade."""
    return [picture[0][1][letter] for letter in walk.nodes]
