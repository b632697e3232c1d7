"""A desk: one sheet that is worked on, by commands that are texts and with answers that are texts."""

from everydepth.errors import InvalidCommand, NotReady, anew
from everydepth.livesheet import Sheet
from everydepth.reading import told_address, told_number, told_picture
from everydepth.texts import address_text, counts_text, number_text, story_text

# What the words behind the first one are; a command with another number of words is another one.
COMMANDS = {
    ("paint", 2): ("address", "number"),
    ("copy", 2): ("address", "address"),
    ("swap", 2): ("address", "address"),
    ("undo", 0): (),
    ("begin", 0): (),
    ("keep", 0): (),
    ("drop", 0): (),
    ("cell", 2): ("number", "number"),
    ("counts", 0): (),
    ("counts", 4): ("number", "number", "number", "number"),
    ("blocks", 0): (),
    ("story", 0): (),
}
DONE = "ok"


class Desk:
    """A desk with at most one sheet on it."""

    def __init__(self):
        self._sheet = None

    def execute(self, line):
        """Does what a command tells and returns the answer."""
        told = told_command(line) if isinstance(line, str) else None
        if told is None:
            raise InvalidCommand(anew(line))
        word, values = told
        if word == "sheet":
            depth, picture = values
            self._sheet = Sheet(picture, depth)
            return DONE
        if self._sheet is None:
            raise NotReady(None)
        return done_on(self._sheet, word, values)


def told_command(line):
    """The tuple of the first word of a command and the list of the values of the others, None for a text of none."""
    word, _, rest = line.partition(" ")
    if word == "sheet":
        depth, _, picture = rest.partition(" ")
        values = [told_number(depth), told_picture(picture)]
    else:
        words = line.split(" ")[1:]
        kinds = COMMANDS.get((word, len(words)))
        if kinds is None:
            return None
        values = [told_number(text) if kind == "number" else told_address(text) for kind, text in zip(kinds, words)]
    return None if None in values else (word, values)


def done_on(sheet, word, values):
    """Does what a command tells to a sheet; the answer."""
    if word == "paint":
        return number_text(sheet.paint(values[0], values[1]))
    if word == "copy":
        return number_text(sheet.copy_block(values[0], values[1]))
    if word == "swap":
        return number_text(sheet.swap_blocks(values[0], values[1]))
    if word == "undo":
        return sheet.undo()
    if word == "cell":
        return str(sheet.shade_at(values[0], values[1]))
    if word == "counts":
        return counts_text(sheet.counts_in(tuple(values)) if values else sheet.counts())
    if word == "blocks":
        return "; ".join([f"{address_text(address)} {letter}" for address, letter in sheet.blocks()])
    if word == "story":
        return story_text(sheet.story)
    return done_with_part(sheet, word)


def done_with_part(sheet, word):
    """Opens a part of a sheet or ends one; the answer."""
    if word == "begin":
        sheet.begin()
    elif word == "keep":
        sheet.keep()
    else:
        sheet.drop()
    return DONE
