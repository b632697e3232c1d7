"""The errors of the package, and how a refused object is stored in one."""


class SheetError(ValueError):
    """Any error of the package; value tells what is not as it should be."""

    def __init__(self, value):
        self.value = value


class InvalidPicture(SheetError):
    """An object is no picture."""


class InvalidBook(SheetError):
    """An object is no book."""


class InvalidShade(SheetError):
    """An object is no shade, or not some shades."""


class InvalidDepth(SheetError):
    """A depth is below 0."""


class InvalidLetter(SheetError):
    """A letter is none of the book."""


class InvalidNumber(SheetError):
    """An integer is out of its range."""


class InvalidPlace(SheetError):
    """A row and a column are no cell of the sheet."""


class InvalidPattern(SheetError):
    """An object is no pattern."""


class InvalidTable(SheetError):
    """An object is no table, or no map."""


class InvalidTerm(SheetError):
    """An object is no term."""


class InvalidRectangle(SheetError):
    """An object is no rectangle of the sheet."""


class InvalidWord(SheetError):
    """An object is not one of the words that are asked for."""


class InvalidSlant(SheetError):
    """An object is no slant."""


class InvalidSlope(SheetError):
    """An object is no slope."""


class InvalidMove(SheetError):
    """An object is no move."""


class NotEndless(SheetError):
    """A picture does not grow."""


class InvalidAddress(SheetError):
    """An object is no address in the sheet."""


class InvalidCounts(SheetError):
    """An object is not four numbers of cells."""


class InvalidStory(SheetError):
    """An object is no story."""


class Unreadable(SheetError):
    """An object is the text of nothing."""


class InvalidCommand(SheetError):
    """An object is no command."""


class Unlike(SheetError):
    """Two things do not fit together."""


class TooMany(SheetError):
    """A least picture has more letters than a book may have."""


class Nothing(SheetError):
    """There is nothing to take back."""


class NoPart(SheetError):
    """There is no open part."""


class NotReady(SheetError):
    """There is no sheet yet."""


def anew(value):
    """The object with its lists and tuples built anew, for an error that is to share none with the caller."""
    if isinstance(value, tuple):
        for entry in value:
            if not isinstance(entry, int):
                return tuple([anew(inner) for inner in value])
        return (*value,)
    if isinstance(value, list):
        return [entry if isinstance(entry, int) else anew(entry) for entry in value]
    return value
