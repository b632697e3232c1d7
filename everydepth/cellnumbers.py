"""Numbers of cells of a shade in reading order: how many are ahead of a place, and where the one with a number is."""

from everydepth.adding import added
from everydepth.cells import figures_of


class LineSums:
    """Sums over the blocks of all letters, and over some of their lines, of a number that each letter has.

    lines has for each letter the lines of its block: its rows, or its columns, which are told as rows then.
    """

    def __init__(self, lines):
        self.lines = lines
        self._wholes = None
        self._told_lines = {}
        self._upper = {}

    def of_blocks(self, numbers):
        """For each letter the sum of the numbers of all letters in its block."""
        if self._wholes is None:
            self._wholes = [tuple([inner for row in block for inner in row]) for block in self.lines]
        return added(numbers, self._wholes)

    def of_row(self, numbers, i):
        """For each letter the sum of the numbers of the letters in a row of its block."""
        if i not in self._told_lines:
            self._told_lines[i] = [block[i] for block in self.lines]
        return added(numbers, self._told_lines[i])

    def above_row(self, numbers, i):
        """For each letter the sum of the numbers of the letters ahead of a row of its block, which is not the first."""
        if i not in self._upper:
            self._upper[i] = [tuple([inner for row in block[:i] for inner in row]) for block in self.lines]
        return added(numbers, self._upper[i])


def number_ahead(picture, depth, shade, row, column):
    """How many cells of a shade are ahead of a place that is in the sheet."""
    (base, shades, blocks), letter = picture
    rows, columns = figures_of(base, depth, row), figures_of(base, depth, column)
    path = [letter]
    for i, j in zip(rows, columns):
        path.append(blocks[path[-1]][i][j])
    sums = LineSums(blocks)
    # From the lowest figures on, for each letter: how many cells of the shade its sheet has, how many of them are
    # above the row, and how many on it. found counts those on the row of the block of the place, ahead of this.
    numbers = [int(own == shade) for own in shades]
    above = [0] * len(shades)
    on_row = numbers
    found = 0
    for at in reversed(range(depth)):
        i = rows[at]
        found += sum([on_row[inner] for inner in blocks[path[at]][i][:columns[at]]])
        above = sums.of_row(above, i)
        if i > 0:
            above = [x + y for x, y in zip(above, sums.above_row(numbers, i))]
        on_row = sums.of_row(on_row, i)
        numbers = sums.of_blocks(numbers)
    return above[letter] + found


def place_of_number(picture, depth, shade, number):
    """The place of the cell of a shade with a number from 0 on, None if there are not so many."""
    (_, shades, blocks), letter = picture
    sums = LineSums(blocks)
    tables = [[int(own == shade) for own in shades]]
    for _ in range(depth):
        tables.append(sums.of_blocks(tables[-1]))
    if number >= tables[depth][letter]:
        return None
    row, figures, number = row_of_number(picture, sums, tables, number)
    return (row, place_on_line(sums, letter, tables[0], figures, number))


def row_of_number(picture, sums, tables, number):
    """The row with the cell of a number, its figures, and the number of the cell in the row."""
    (base, shades, blocks), letter = picture
    row = 0
    figures = []
    # How often each letter stands in the row so far.
    strip = [int(own == letter) for own in range(len(shades))]
    for numbers in tables[-2::-1]:
        i = 0
        here = number_on_strip(strip, sums.of_row(numbers, i))
        while number >= here:
            number -= here
            i += 1
            here = number_on_strip(strip, sums.of_row(numbers, i))
        row = row * base + i
        figures.append(i)
        inner_strip = [0] * len(shades)
        for block, times in zip(blocks, strip):
            if times > 0:
                for inner in block[i]:
                    inner_strip[inner] += times
        strip = inner_strip
    return row, figures, number


def number_on_strip(strip, numbers):
    """The sum of the numbers of all letters of a strip."""
    return sum([times * number for times, number in zip(strip, numbers) if times > 0])


def place_on_line(sums, letter, marks, figures, number):
    """The place, on the row with these figures, of its cell with a number, None if there are not so many.

    The rows are those of the lines that the sums are told for; marks has 1 for the letters that count, 0 for others.
    """
    tables = [marks]
    for i in reversed(figures):
        tables.append(sums.of_row(tables[-1], i))
    if number >= tables[-1][letter]:
        return None
    place = 0
    for i, numbers in zip(figures, tables[-2::-1]):
        line = sums.lines[letter][i]
        j = 0
        while number >= numbers[line[j]]:
            number -= numbers[line[j]]
            j += 1
        place = place * len(line) + j
        letter = line[j]
    return place
