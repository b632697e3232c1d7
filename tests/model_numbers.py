"""What the tests compare numbers with: cells counted one by one, and linear algebra over fractions, as plain as may be."""

from fractions import Fraction

from tests.model import shade_sheet

NO_SHADES = [None, True, False, -1, 4, 10 ** 100, "1", "", (1,), [1], [[1], ([],)], {}, object()]
NO_SHADE_TUPLES = [
    None, 0, True, "01", [], [0, 1], (), (4,), (-1,), (True,), (0, True), (1, 0), (0, 0), (0, 1, 1), ("0",), (None,),
    ([0],), ((0,),), (0, [1]), {0: 1}, [[0], (1, [2])], (0, 1, 2, 3, 4),
]


def plain_counts(picture, depth):
    cells = [shade for row in shade_sheet(picture, depth) for shade in row]
    return tuple(cells.count(shade) for shade in range(4))


def counts_by_letters(picture, depths):
    """The numbers of the four shades, letter by letter, at so many depths from 0 on."""
    _, shades, blocks = picture[0]
    numbers = [int(letter == picture[1]) for letter in range(len(shades))]
    found = []
    while len(found) < depths:
        found.append(tuple(sum(n for n, s in zip(numbers, shades) if s == shade) for shade in range(4)))
        deeper = [0] * len(shades)
        for letter, block in enumerate(blocks):
            if numbers[letter]:
                for row in block:
                    for inner in row:
                        deeper[inner] += numbers[letter]
        numbers = deeper
    return found


def rest_by_squares(picture, depth, shade, modulus):
    """The remainder by powers of the matrix of the letters."""
    _, shades, blocks = picture[0]
    many = range(len(shades))
    matrix = [[sum(row.count(b) for row in blocks[a]) for b in many] for a in many]
    numbers = [int(letter == picture[1]) for letter in many]
    while depth:
        if depth % 2:
            numbers = [sum(numbers[a] * matrix[a][b] for a in many) % modulus for b in many]
        matrix = [[sum(matrix[a][c] * matrix[c][b] for c in many) % modulus for b in many] for a in many]
        depth //= 2
    return sum(n for n, s in zip(numbers, shades) if s == shade) % modulus


def reduced_rows(rows, width):
    """The reduced form of rows of fractions: the first entries that are not 0 are 1, alone in their columns."""
    found = []
    for row in rows:
        row = [Fraction(x) for x in row]
        for at, other in found:
            row = [x - row[at] * y for x, y in zip(row, other)]
        if any(row):
            first = next(at for at in range(width) if row[at])
            row = [x / row[first] for x in row]
            found = [(at, [x - other[first] * y for x, y in zip(other, row)]) for at, other in found]
            found.append((first, row))
    return sorted(found)


def plain_relations(rows, width):
    """All w with the sum of w[i] * row[i] 0 for each row, in reduced form, as tuples of pairs of integers."""
    told = reduced_rows(rows, width)
    pivots = dict(told)
    kernel = []
    for free in range(width):
        if free not in pivots:
            vector = [Fraction(0)] * width
            vector[free] = Fraction(1)
            for at, row in told:
                vector[at] = -row[free]
            kernel.append(vector)
    return [tuple((x.numerator, x.denominator) for x in row) for _, row in reduced_rows(kernel, width)]


def plain_rule(numbers):
    """The shortest list of fractions that the numbers keep from its length on; they are many more than it is long."""
    for length in range(len(numbers)):
        rows = [numbers[n - length:n][::-1] + [numbers[n]] for n in range(length, len(numbers))]
        told = reduced_rows(rows, length + 1)
        if length not in dict(told):
            found = [Fraction(0)] * length
            for at, row in told:
                found[at] = row[length]
            return [(x.numerator, x.denominator) for x in found]
    return None


def pattern_places(picture, depth, pattern):
    """The list of all places at which a pattern comes, in reading order."""
    rows = shade_sheet(picture, depth)
    height, width = len(pattern), len(pattern[0])
    found = []
    for r in range(len(rows) - height + 1):
        for c in range(len(rows) - width + 1):
            if all(tuple(rows[r + k][c:c + width]) == pattern[k] for k in range(height)):
                found.append((r, c))
    return found


def patterns_in(picture, depth, height, width):
    """The ascending list of all patterns of a size in a sheet."""
    rows = shade_sheet(picture, depth)
    starts = [(r, c) for r in range(len(rows) - height + 1) for c in range(len(rows) - width + 1)]
    return sorted({tuple(tuple(rows[r + k][c:c + width]) for k in range(height)) for r, c in starts})


NEAR = [(0, 1), (1, 0), (0, -1), (-1, 0)]
CORNERS = [(1, 1), (1, -1), (-1, 1), (-1, -1)]


def components(cells, corners):
    """The list of the sets of cells that are joined, by corners, too, if corners is true."""
    left = set(cells)
    found = []
    while left:
        ready = [left.pop()]
        piece = set(ready)
        while ready:
            r, c = ready.pop()
            for down, right in NEAR + (CORNERS if corners else []):
                if (r + down, c + right) in left:
                    left.remove((r + down, c + right))
                    ready.append((r + down, c + right))
                    piece.add((r + down, c + right))
        found.append(piece)
    return found


def plain_pieces(picture, depth, shades, corners):
    """Pieces less holes, each found by going from cell to cell."""
    rows = shade_sheet(picture, depth)
    side = range(len(rows))
    rim = {0, len(rows) - 1}
    inside = [(r, c) for r in side for c in side if rows[r][c] in shades]
    outside = [(r, c) for r in side for c in side if rows[r][c] not in shades]
    holes = [piece for piece in components(outside, not corners) if not any(r in rim or c in rim for r, c in piece)]
    return len(components(inside, corners)) - len(holes)


def plain_neighbours(picture, depth, down, right):
    """The list of the tuples of both shades of all cells and those so far below and to the right."""
    rows = shade_sheet(picture, depth)
    many = len(rows)
    return [(rows[r][c], rows[r + down][c + right]) for r in range(many - down) for c in range(many - right)]


def plain_rim(picture, depth, shade):
    rows = shade_sheet(picture, depth)
    last = len(rows) - 1
    sides = [rows[0], rows[last], [row[0] for row in rows], [row[last] for row in rows]]
    return sum(side.count(shade) for side in sides)


def plain_border(picture, depth, shade):
    pairs = plain_neighbours(picture, depth, 0, 1) + plain_neighbours(picture, depth, 1, 0)
    return plain_rim(picture, depth, shade) + sum((a == shade) != (b == shade) for a, b in pairs)
