"""Texts of pictures, addresses, sheets, numbers of cells and stories."""

from everydepth.cells import sheet
from everydepth.errors import InvalidAddress, InvalidCounts, InvalidStory, anew
from everydepth.livesheet import is_address
from everydepth.pictures import MOST_LETTERS, check_picture, is_int, is_tuple_of

SHADES = 4

# One more than the greatest figure of any base, and the most pairs of an address in a story.
FIGURES = 4
MOST_PAIRS = 90

# Stands for an address, or a story, that has nothing in it.
NOTHING = "-"

# Python itself refuses the text of an integer with thousands of figures, so it is told by so many at once.
AT_ONCE = 60
WITH_MORE = 10 ** 60


def show_picture(picture):
    """The text of a picture."""
    check_picture(picture)
    (base, shades, blocks), letter = picture
    entries = [str(base), row_text(shades)]
    entries.extend([" / ".join([row_text(row) for row in block]) for block in blocks])
    entries.append(str(letter))
    return "; ".join(entries)


def show_address(address):
    """The text of an address, of any length and with any figures."""
    if not isinstance(address, tuple) or not is_address(address, len(address), FIGURES):
        raise InvalidAddress(anew(address))
    return address_text(address)


def show_sheet(picture, depth):
    """The text of a sheet, a line for each row."""
    return "".join(["".join([str(shade) for shade in row]) + "\n" for row in sheet(picture, depth)])


def show_counts(counts):
    """The text of four numbers of cells."""
    if not is_tuple_of(counts, SHADES) or not all([is_int(entry) and entry >= 0 for entry in counts]):
        raise InvalidCounts(anew(counts))
    return counts_text(counts)


def show_story(story):
    """The text of a story."""
    if not isinstance(story, tuple) or not all([is_deed(entry) for entry in story]):
        raise InvalidStory(anew(story))
    return story_text(story)


def is_deed(value):
    """Whether any object is a deed of a story."""
    if not is_tuple_of(value, 3) or not isinstance(value[0], str):
        return False
    word, address, other = value
    if not is_address(address, MOST_PAIRS, FIGURES):
        return False
    if word == "paint":
        return is_int(other) and 0 <= other < MOST_LETTERS
    return word in ("copy", "swap") and is_address(other, MOST_PAIRS, FIGURES)


def row_text(numbers):
    """The text of some small integers."""
    return " ".join([str(number) for number in numbers])


def address_text(address):
    """What show_address returns of an argument that is checked."""
    if not address:
        return NOTHING
    return ".".join([f"{i}{j}" for i, j in address])


def counts_text(counts):
    """What show_counts returns of an argument that is checked."""
    return " ".join([number_text(number) for number in counts])


def number_text(number):
    """The figures of an integer from 0 on, of any length."""
    parts = []
    while number >= WITH_MORE:
        number, rest = divmod(number, WITH_MORE)
        parts.append(str(rest).zfill(AT_ONCE))
    parts.append(str(number))
    parts.reverse()
    return "".join(parts)


def story_text(story):
    """What show_story returns of an argument that is checked."""
    if not story:
        return NOTHING
    return "; ".join([deed_text(deed) for deed in story])


def deed_text(deed):
    """The text of a deed."""
    word, address, other = deed
    last = str(other) if word == "paint" else address_text(other)
    return f"{word} {address_text(address)} {last}"
