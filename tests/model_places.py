"""What the tests compare places, rectangles, lines and moves with: sheets unfolded cell by cell."""

from random import Random

from tests.model import falling_picture, made_picture, made_pictures, shade_sheet, sparse_picture

DEPTHS = {2: 5, 3: 4, 4: 3}


def some_pictures(seed, many):
    """Made pictures of all kinds with up to 8 letters."""
    random = Random(seed)
    found = made_pictures(seed, 2)
    while len(found) < many:
        base, letters = random.randrange(2, 5), random.randrange(1, 9)
        made = [made_picture, sparse_picture, falling_picture, striped_picture][len(found) % 4]
        found.append(made(random, base, letters))
    return found


def striped_picture(random, base, letters):
    """A picture in whose blocks most rows have one letter alone."""
    def row():
        common, other = random.randrange(letters), random.randrange(letters)
        return tuple(random.choice([common, common, other]) for _ in range(base))
    blocks = tuple(tuple(row() for _ in range(base)) for _ in range(letters))
    return ((base, tuple(random.randrange(2) for _ in range(letters)), blocks), random.randrange(letters))


def shade_places(picture, depth, shade):
    """The list of the places of all cells of a shade in reading order."""
    rows = shade_sheet(picture, depth)
    return [(r, c) for r, row in enumerate(rows) for c, s in enumerate(row) if s == shade]


def lines_of(picture, depth, along):
    rows = [tuple(row) for row in shade_sheet(picture, depth)]
    return rows if along == "row" else list(zip(*rows))


def full_lines(picture, depth, along, shades):
    """The ascending list of the numbers of the lines within some shades."""
    lines = lines_of(picture, depth, along)
    return [number for number, line in enumerate(lines) if set(line) <= set(shades)]


def first_longest_run(numbers):
    """The tuple (first, how many) of the first longest run of ascending numbers, None if there is none."""
    runs = []
    for number in numbers:
        if runs and sum(runs[-1]) == number:
            runs[-1] = (runs[-1][0], runs[-1][1] + 1)
        else:
            runs.append((number, 1))
    return max(runs, key=lambda run: (run[1], -run[0]), default=None)


def pairs_over(one, other, depth, move, is_round):
    """The list of the tuples (row, column, shade, other shade) of all places that lie over one, in reading order."""
    rows, others = shade_sheet(one, depth), shade_sheet(other, depth)
    side = len(rows)
    found = []
    for r, row in enumerate(rows):
        for c, shade in enumerate(row):
            down, right = r + move[0], c + move[1]
            if is_round:
                down, right = down % side, right % side
            if 0 <= down < side and 0 <= right < side:
                found.append((r, c, shade, others[down][right]))
    return found


def pair_table(pairs):
    told = [(s, t) for _, _, s, t in pairs]
    return tuple(tuple(told.count((s, t)) for t in range(4)) for s in range(4))


def first_unlike_pair(pairs):
    return next(((r, c) for r, c, s, t in pairs if s != t), None)


NO_RECTANGLES = [
    None, 0, True, "0 0 1 1", "", [], (), {}, set(), object(), [0, 0, 1, 1], (0, 0, 1), (0, 0, 1, 1, 1), (0, 0, 1, None),
    (0, 0, 1, "1"), (0, 0, 1, True), (False, 0, 1, 1), (0, [0], 1, 1), ((0, 0), (1, 1)), (1, 0, 0, 1), (0, 1, 1, 0),
    (-1, 0, 1, 1), (0, -1, 1, 1), (0, 0, 5, 1), (0, 0, 1, 5), (5, 5, 5, 5), (0, 0, 10 ** 100, 1), (4, 0, 3, 4),
    ([0, [1]], (0,), 1, 1),
]
NO_WORDS = [
    None, 0, True, "", "rows", "Row", "row ", "columns", b"row", ["row"], ("row",), ("row", "column"), [], (), {}, object(),
    [["row"], ("column", [1])],
]
NO_MOVES = [
    None, 0, True, "01", "", [], (), {}, set(), object(), [0, 1], (0,), (0, 1, 2), (0, None), (None, 0), (0, "1"),
    (True, 0), (0, False), ([0], 1), (0, [1, [2]]), ((0, 1),), {0: 1, 1: 0},
]
