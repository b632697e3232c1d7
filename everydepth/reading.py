"""What texts stand for: pictures, addresses, numbers of cells and stories."""

from everydepth.errors import Unreadable, anew
from everydepth.pictures import is_picture
from everydepth.texts import NOTHING, is_deed

SHADES = 4
MOST_FIGURES = 120
FIGURES = "0123"


def read_picture(text):
    """The picture whose text this is."""
    return checked(text, told_picture(text) if isinstance(text, str) else None)


def read_address(text):
    """The address whose text this is."""
    return checked(text, told_address(text) if isinstance(text, str) else None)


def read_counts(text):
    """The four numbers of cells whose text this is."""
    return checked(text, told_counts(text) if isinstance(text, str) else None)


def read_story(text):
    """The story whose text this is."""
    return checked(text, told_story(text) if isinstance(text, str) else None)


def checked(text, value):
    """The value; Unreadable for an object that is the text of none."""
    if value is None:
        raise Unreadable(anew(text))
    return value


# Each of these returns None for a text of none.


def told_picture(text):
    """The picture of a text."""
    entries = text.split("; ")
    if len(entries) < 4:
        return None
    blocks = [tuple([told_row(row) for row in entry.split(" / ")]) for entry in entries[2:-1]]
    picture = ((told_number(entries[0]), told_row(entries[1]), tuple(blocks)), told_number(entries[-1]))
    return picture if is_picture(picture) else None


def told_row(text):
    """The tuple of the integers of a text, None in the place of what is none."""
    return tuple([told_number(word) for word in text.split(" ")])


def told_number(text):
    """The integer from 0 on of a text, without leading zeros and with not too many figures."""
    if not text.isascii() or not text.isdigit() or len(text) > MOST_FIGURES:
        return None
    if text.startswith("0") and text != "0":
        return None
    return int(text)


def told_address(text):
    """The address of a text."""
    if text == NOTHING:
        return ()
    found = []
    for pair in text.split("."):
        if len(pair) != 2 or pair[0] not in FIGURES or pair[1] not in FIGURES:
            return None
        found.append((int(pair[0]), int(pair[1])))
    return tuple(found)


def told_counts(text):
    """The four numbers of cells of a text."""
    counts = told_row(text)
    return counts if len(counts) == SHADES and None not in counts else None


def told_story(text):
    """The story of a text."""
    if text == NOTHING:
        return ()
    deeds = [told_deed(entry) for entry in text.split("; ")]
    return tuple(deeds) if None not in deeds else None


def told_deed(text):
    """The deed of a text."""
    words = text.split(" ")
    if len(words) != 3:
        return None
    word, address, other = words
    deed = (word, told_address(address), told_number(other) if word == "paint" else told_address(other))
    return deed if is_deed(deed) else None
