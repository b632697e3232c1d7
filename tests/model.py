"""What the tests compare the package with: sheets as DOC.md [5] tells them, cell by cell, and made pictures."""

from random import Random

STAIRS = ((2, (1, 0), (((0, 1), (0, 0)), ((1, 1), (1, 1)))), 0)
OTHER = ((2, (1, 0), (((0, 0), (0, 1)), ((1, 1), (1, 1)))), 0)
LATE = ((2, (3, 1, 0), (((1, 2), (1, 1)), ((1, 2), (1, 1)), ((2, 2), (2, 2)))), 0)
CARPET = ((3, (1, 0), (((0, 0, 0), (0, 1, 0), (0, 0, 0)), ((1, 1, 1), (1, 1, 1), (1, 1, 1)))), 0)
PARITY = ((0, 1, 2, 3), (1, 0, 3, 2), (2, 3, 0, 1), (3, 2, 1, 0))
LEAST_OF = ((0, 0, 0, 0), (0, 1, 1, 1), (0, 1, 2, 2), (0, 1, 2, 3))
BOTH = ((0, 0, 0, 0), (0, 1, 0, 0), (0, 0, 0, 0), (0, 0, 0, 0))


def letter_sheet(picture, depth):
    (base, _, blocks), letter = picture
    if depth == 0:
        return [[letter]]
    block = [[letter_sheet((picture[0], inner), depth - 1) for inner in row] for row in blocks[letter]]
    return [sum((part[line] for part in row), []) for row in block for line in range(base ** (depth - 1))]


def shade_sheet(picture, depth):
    return [[picture[0][1][letter] for letter in row] for row in letter_sheet(picture, depth)]


def cells_of(picture, depth):
    """The tuples (row, column, shade) in reading order."""
    rows = shade_sheet(picture, depth)
    return [(r, c, shade) for r, row in enumerate(rows) for c, shade in enumerate(row)]


def first_cell_where(one, other, depths, wanted):
    """The first (depth, row, column), by brute force, at which wanted(shade, shade) is true."""
    for depth in depths:
        for (row, column, s), (_, _, t) in zip(cells_of(one, depth), cells_of(other, depth)):
            if wanted(s, t):
                return (depth, row, column)
    return None


def letters_by_depth(picture, depths):
    """The sets of the letters that come at the depths from 0 on."""
    (_, _, blocks), letter = picture
    found = [{letter}]
    while len(found) < depths:
        found.append({inner for outer in found[-1] for row in blocks[outer] for inner in row})
    return found


def pairs_by_depth(one, other, depths):
    """The sets of the pairs of letters at one cell at the depths from 0 on."""
    found = [{(one[1], other[1])}]
    while len(found) < depths:
        found.append({
            (a, b)
            for left, right in found[-1]
            for row, line in zip(one[0][2][left], other[0][2][right])
            for a, b in zip(row, line)
        })
    return found


def made_picture(random, base, letters, shades=4):
    def row():
        return tuple(random.randrange(letters) for _ in range(base))
    blocks = tuple(tuple(row() for _ in range(base)) for _ in range(letters))
    return ((base, tuple(random.randrange(shades) for _ in range(letters)), blocks), random.randrange(letters))


def sparse_picture(random, base, letters, shades=2):
    """A picture whose letters lead to one or two others alone, so that they come late or seldom."""
    def block(letter):
        near = [(letter + 1) % letters, random.choice([(letter + 1) % letters, random.randrange(letters)])]
        return tuple(tuple(random.choice(near) for _ in range(base)) for _ in range(base))
    blocks = tuple(block(letter) for letter in range(letters))
    return ((base, tuple(random.randrange(shades) for _ in range(letters)), blocks), random.randrange(letters))


def falling_picture(random, base, letters):
    """A picture whose letters lead to greater ones alone, the last one to itself."""
    def inner(letter):
        return min(letters - 1, letter + random.randrange(1, 3))
    blocks = tuple(tuple(tuple(inner(letter) for _ in range(base)) for _ in range(base)) for letter in range(letters))
    return ((base, tuple(random.randrange(2) for _ in range(letters)), blocks), 0)


def made_pictures(seed, many):
    """Made pictures of each kind and base, the same for the same seed."""
    random = Random(seed)
    found = []
    for number in range(many):
        base = 2 + number % 3 if number % 2 else 2
        found.append(made_picture(random, base, random.randrange(1, 6), random.randrange(1, 5)))
        found.append(sparse_picture(random, base, random.randrange(1, 7)))
        found.append(falling_picture(random, base, random.randrange(1, 6)))
    return found


def made_pairs(seed, many):
    """Pairs of made pictures of one base; often of one book, so that they may be alike."""
    pictures = made_pictures(seed, many)
    pairs = []
    for at, one in enumerate(pictures):
        pairs += [(one, other) for other in pictures[at:at + 8] if other[0][0] == one[0][0]]
        pairs.append((one, (one[0], (one[1] + 1) % len(one[0][1]))))
        pairs.append((one, renamed(one)))
    return pairs


def renamed(picture):
    """The picture with its letters named the other way round, and one more letter that never comes."""
    (base, shades, blocks), letter = picture
    last = len(shades) - 1
    turned = tuple(tuple(tuple(last - inner for inner in row) for row in block) for block in blocks[::-1])
    idle = tuple((0,) * base for _ in range(base))
    return ((base, shades[::-1] + (3,), turned + (idle,)), last - letter)


def ring(base, shades, letter=0):
    """Each letter unfolds into the next one alone, the last one into the first."""
    blocks = tuple(((((at + 1) % len(shades),) * base),) * base for at in range(len(shades)))
    return ((base, tuple(shades), blocks), letter)


def chain(base, length, place):
    """A picture that has one cell of shade 1, at depth length - 1, and always at this place of the blocks."""
    blank = length
    blocks = []
    for letter in range(length):
        inner = letter + 1 if letter < length - 1 else blank
        blocks.append(tuple(tuple(inner if (i, j) == place else blank for j in range(base)) for i in range(base)))
    blocks.append(((blank,) * base,) * base)
    return ((base, (0,) * (length - 1) + (1, 0), tuple(blocks)), 0)


def lists_in(value):
    """All lists in a value, itself too."""
    if not isinstance(value, (list, tuple)):
        return []
    found = [value] if isinstance(value, list) else []
    for entry in value:
        found += lists_in(entry)
    return found


NO_BOOKS = [
    None, True, 2, "book", b"", [], (), {}, set(), object(), [2, (1, 0), STAIRS[0][2]], list(STAIRS[0]),
    STAIRS[0][:2], STAIRS[0] + (0,),
    (1, (0,), (((0,),),)), (5, (0,), (((0,) * 5,) * 5,)), (0, (0,), ((),)), (-2, (1, 0), STAIRS[0][2]),
    (True, (0,), (((0,),),)), ("2", (1, 0), STAIRS[0][2]), (None, (1, 0), STAIRS[0][2]),
    ([2], (1, 0), STAIRS[0][2]), (3, (1, 0), STAIRS[0][2]),
    (2, [1, 0], STAIRS[0][2]), (2, (), ()), (2, (1,), STAIRS[0][2]), (2, (1, 0, 0), STAIRS[0][2]),
    (2, (4, 0), STAIRS[0][2]), (2, (1, -1), STAIRS[0][2]), (2, (True, 0), STAIRS[0][2]),
    (2, (1, False), STAIRS[0][2]), (2, ("1", 0), STAIRS[0][2]), (2, (1, None), STAIRS[0][2]), (2, 1, STAIRS[0][2]),
    (2, (1, 0), list(STAIRS[0][2])), (2, (1, 0), STAIRS[0][2][:1]), (2, (1, 0), None),
    (2, (1, 0), ([(0, 1), (0, 0)], ((1, 1), (1, 1)))), (2, (1, 0), (((0, 1), [0, 0]), ((1, 1), (1, 1)))),
    (2, (1, 0), (((0, 1),), ((1, 1), (1, 1)))), (2, (1, 0), (((0, 1), (0, 0), (0, 0)), ((1, 1), (1, 1)))),
    (2, (1, 0), (((0, 1), (0,)), ((1, 1), (1, 1)))), (2, (1, 0), (((0, 1), (0, 0, 0)), ((1, 1), (1, 1)))),
    (2, (1, 0), (((0, 2), (0, 0)), ((1, 1), (1, 1)))), (2, (1, 0), (((0, 1), (0, -1)), ((1, 1), (1, 1)))),
    (2, (1, 0), (((0, True), (0, 0)), ((1, 1), (1, 1)))), (2, (1, 0), (((0, 1), (0, "0")), ((1, 1), (1, 1)))),
    (2, (1, 0), (((0, 1), (0, 0)), None)), (2, (0,) * 65, (((0, 0), (0, 0)),) * 65),
]

NO_PICTURES = [
    None, False, 0, "ab", [], (), (STAIRS[0],), STAIRS + (0,), list(STAIRS), [STAIRS[0], [0]], STAIRS[0],
    (STAIRS[0], 2), (STAIRS[0], -1), (STAIRS[0], True), (STAIRS[0], False), (STAIRS[0], "0"), (STAIRS[0], None),
    (STAIRS[0], [0]), (0, STAIRS[0]), {"book": STAIRS[0]}, ({}, 0), ([[1], ([2],)], 0),
] + [(book, 0) for book in NO_BOOKS]
