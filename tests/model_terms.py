"""Sheets of terms as DOC.md [19] tells them, cell by cell, and made terms."""

from tests.model import made_picture, shade_sheet
from tests.test_together import NO_MAPS, NO_TABLES
from tests.test_turns import turned_sheet


def base_of_term(term):
    while term[0] != "picture":
        term = term[2][0][0] if term[0] == "block" else term[-1]
    return term[1][0][0]


def term_sheet(term, depth):
    word = term[0]
    if word == "picture":
        return shade_sheet(term[1], depth)
    if word == "put":
        both = zip(term_sheet(term[2], depth), term_sheet(term[3], depth))
        return [[term[1][s][t] for s, t in zip(row, line)] for row, line in both]
    if word == "map":
        return [[term[1][s] for s in row] for row in term_sheet(term[2], depth)]
    if word == "turn":
        return turned_sheet(term_sheet(term[2], depth), term[1])
    base = base_of_term(term)
    if word == "part":
        _, i, j, inner = term
        side = base ** depth
        return [row[j * side:(j + 1) * side] for row in term_sheet(inner, depth + 1)[i * side:(i + 1) * side]]
    if depth == 0:
        return [[term[1]]]
    found = []
    for row in term[2]:
        parts = [term_sheet(inner, depth - 1) for inner in row]
        found += [sum((part[line] for part in parts), []) for line in range(base ** (depth - 1))]
    return found


def inner_terms(term):
    """The terms directly within a term, in the sequence in which they stand."""
    if term[0] == "picture":
        return []
    if term[0] == "block":
        return [inner for row in term[2] for inner in row]
    return [entry for entry in term[1:] if isinstance(entry, tuple) and entry and isinstance(entry[0], str)]


def size_of(term):
    return 1 + sum(size_of(inner) for inner in inner_terms(term))


def depth_of(term):
    return 1 + max([depth_of(inner) for inner in inner_terms(term)], default=0)


def made_term(random, base, deep, room):
    """A made term, at most so deep; room is the list of how many terms there still may be."""
    room[0] -= 1
    words = ["picture", "put", "map", "turn", "part"] + ["block"] * (room[0] > base * base + 4)
    word = random.choice(words) if deep > 1 and room[0] > 2 else "picture"

    def inner():
        return made_term(random, base, deep - 1, room)
    if word == "picture":
        return ("picture", made_picture(random, base, random.randrange(1, 5), random.randrange(1, 5)))
    if word == "put":
        table = tuple(tuple(random.randrange(4) for _ in range(4)) for _ in range(4))
        return ("put", table, inner(), inner())
    if word == "map":
        return ("map", tuple(random.randrange(4) for _ in range(4)), inner())
    if word == "turn":
        return ("turn", random.randrange(8), inner())
    if word == "part":
        return ("part", random.randrange(base), random.randrange(base), inner())
    small = base * base + 2
    room[0] -= small
    rows = tuple(tuple(made_term(random, base, 1, [1]) for _ in range(base)) for _ in range(base))
    return ("block", random.randrange(4), rows)


def wrong_terms(stairs, carpet):
    """Objects that are no term, of the term stairs with base 2 and the term carpet with base 3."""
    table = ((0,) * 4,) * 4
    maps = (0, 1, 2, 3)
    whole = ((stairs, stairs), (stairs, stairs))
    found = [
        None, 0, True, "picture", "", (), [], {}, set(), object(), ("picture",), ["picture", stairs[1]], stairs[1],
        stairs + (0,), ("picture", stairs), ("picture", [stairs[1]]), ("picture", None), (b"picture", stairs[1]),
        ("Picture", stairs[1]), (None, stairs[1]), ("picture", (stairs[1][0], 2)), ("", stairs), ("term", stairs),
        ("put", table, stairs), ("put", table, stairs, stairs, stairs), ("put", stairs, stairs, table),
        ("put", table, stairs, None), ("put", table, None, stairs), ("put", table, stairs, carpet),
        ("put", table, carpet, stairs), ["put", table, stairs, stairs], ("put", table, [stairs], stairs),
        ("map", maps), ("map", maps, stairs, stairs), ("map", stairs, maps), ("map", maps, [0, [1]]),
        ("turn", -1, stairs), ("turn", 8, stairs), ("turn", True, stairs), ("turn", "1", stairs), ("turn", [1], stairs),
        ("turn", None, stairs), ("turn", stairs), ("turn", 1, stairs[1]), ("turn", 1, stairs, 1),
        ("part", 0, stairs), ("part", 0, 2, stairs), ("part", 2, 0, stairs), ("part", -1, 0, stairs),
        ("part", 0, -1, stairs), ("part", True, 0, stairs), ("part", 0, False, stairs), ("part", [0], 0, stairs),
        ("part", 3, 3, carpet), ("part", 0, 0, None), ("part", 0, 0, stairs, 0),
        ("block", 4, whole), ("block", -1, whole), ("block", True, whole), ("block", [1], whole), ("block", whole),
        ("block", 1, list(whole)), ("block", 1, (list(whole[0]), whole[1])), ("block", 1, whole[:1]),
        ("block", 1, whole + whole[:1]), ("block", 1, (whole[0], whole[1][:1])), ("block", 1, ()), ("block", 1, ((), ())),
        ("block", 1, (whole[0], (stairs, carpet))), ("block", 1, (whole[0], (stairs, None))), ("block", 1, None),
        ("block", 1, ((carpet, carpet), (carpet, carpet))), ("block", 1, whole, 0), ("block", 1, (whole[0], None)),
    ]
    found += [("put", value, stairs, stairs) for value in NO_TABLES] + [("map", value, stairs) for value in NO_MAPS]
    found += [("turn", 1, ("map", maps, value)) for value in found[:12]]
    return found
