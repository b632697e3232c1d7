"""Terms: pictures told by what they are made of, for depth 0 and all greater ones."""

from everydepth.alike import first_unlike
from everydepth.cells import check_place, found_letter, side_of
from everydepth.errors import InvalidTerm, Unlike, anew
from everydepth.least import least_picture
from everydepth.pictures import check_depth, is_int, is_picture, is_shade
from everydepth.together import is_map, is_table, mapped_picture, put_picture, small_least
from everydepth.turns import TURNS, place_ahead, turned_picture


def is_term(value):
    """Whether any object is a term."""
    return base_of(value) is not None


def shade_of(term, depth, row, column):
    """The shade of a cell of a term."""
    base = base_of_checked(term)
    check_depth(depth)
    check_place(base, depth, row, column)
    return found_shade(term, base, depth, row, column)


def made(term):
    """The least picture that has the cells of a term; TooMany if it, or that of a term within, has too many letters."""
    base_of_checked(term)
    return made_picture(term)


def same_terms(one, other):
    """True if two terms have the same cells at ALL depths, otherwise False."""
    check_terms(one, other)
    return made_picture(one) == made_picture(other)


def terms_part(one, other):
    """None if two terms have the same cells, else (depth, row, column) of the least depth and first cell not so."""
    check_terms(one, other)
    first = made_picture(one)
    return first_unlike(first, made_picture(other))


def base_of(value):
    """The base of all pictures in a term, None for any object that is no term."""
    if not isinstance(value, tuple) or len(value) < 2 or not isinstance(value[0], str):
        return None
    word = value[0]
    if word == "picture" and len(value) == 2 and is_picture(value[1]):
        return value[1][0][0]
    if word == "put" and len(value) == 4 and is_table(value[1]):
        return common_base(value[2:])
    if word == "map" and len(value) == 3 and is_map(value[1]):
        return base_of(value[2])
    if word == "turn" and len(value) == 3 and is_int(value[1]) and 0 <= value[1] < TURNS:
        return base_of(value[2])
    if word == "part" and len(value) == 4 and is_int(value[1]) and is_int(value[2]):
        return base_of_part(value)
    if word == "block" and len(value) == 3 and is_shade(value[1]):
        return base_of_rows(value[2])
    return None


def base_of_part(value):
    """The base of a part, None if it has no such place."""
    _, i, j, term = value
    base = base_of(term)
    if base is not None and 0 <= i < base and 0 <= j < base:
        return base
    return None


def base_of_rows(rows):
    """The base of the rows of a block of terms, None for any object that is none."""
    if not isinstance(rows, tuple) or not all([isinstance(row, tuple) for row in rows]):
        return None
    base = common_base([term for row in rows for term in row])
    if base is not None and len(rows) == base and all([len(row) == base for row in rows]):
        return base
    return None


def common_base(values):
    """The base of all of some terms; None if they have none together, or if one is no term."""
    bases = [base_of(value) for value in values]
    if bases and bases.count(bases[0]) == len(bases):
        return bases[0]
    return None


def found_shade(term, base, depth, row, column):
    """The shade of a cell that is in the sheet."""
    word = term[0]
    if word == "picture":
        return term[1][0][1][found_letter(term[1], depth, row, column)]
    if word == "put":
        s, t = [found_shade(inner, base, depth, row, column) for inner in term[2:]]
        return term[1][s][t]
    if word == "map":
        return term[1][found_shade(term[2], base, depth, row, column)]
    if word == "turn":
        row, column = place_ahead(term[1], side_of(base, depth), row, column)
        return found_shade(term[2], base, depth, row, column)
    if word == "part":
        side = side_of(base, depth)
        return found_shade(term[3], base, depth + 1, term[1] * side + row, term[2] * side + column)
    if depth == 0:
        return term[1]
    side = side_of(base, depth - 1)
    return found_shade(term[2][row // side][column // side], base, depth - 1, row % side, column % side)


def made_picture(term):
    """The least picture of a term, each term within being made ahead of it."""
    word = term[0]
    if word == "picture":
        return least_picture(term[1])
    if word == "put":
        one = made_picture(term[2])
        return put_picture(one, made_picture(term[3]), term[1])
    if word == "map":
        return mapped_picture(made_picture(term[2]), term[1])
    if word == "turn":
        return least_picture(turned_picture(made_picture(term[2]), term[1]))
    if word == "part":
        book, letter = made_picture(term[3])
        return least_picture((book, book[2][letter][term[1]][term[2]]))
    return block_picture(term[1], [[made_picture(inner) for inner in row] for row in term[2]])


def block_picture(shade, rows):
    """The least picture of a cell of a shade that unfolds into the rows of pictures."""
    base = len(rows)
    shades = [shade]
    blocks = [()]
    block = []
    for row in rows:
        letters = []
        for book, letter in row:
            first = len(shades)
            letters.append(first + letter)
            shades.extend(book[1])
            blocks.extend([moved_block(inner, first) for inner in book[2]])
        block.append(tuple(letters))
    blocks[0] = tuple(block)
    return small_least(((base, tuple(shades), tuple(blocks)), 0))


def moved_block(block, first):
    """A block with its letters numbered from another first one on."""
    return tuple([tuple([first + letter for letter in row]) for row in block])


def base_of_checked(term):
    """The base of a term; InvalidTerm for any object that is none."""
    base = base_of(term)
    if base is None:
        raise InvalidTerm(anew(term))
    return base


def check_terms(one, other):
    """Raises InvalidTerm for any object that is none, Unlike for two terms of unlike bases."""
    base = base_of_checked(one)
    other_base = base_of_checked(other)
    if other_base != base:
        raise Unlike(other_base)
