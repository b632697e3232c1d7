"""Sums: numbers that each depth makes of those of the depth below by one linear rule.

Nodes have children, one depth less deep each; the number of a node at a depth is the sum of those
of its children at the depth below, and at depth 0 its weight.
"""

from math import gcd

from everydepth.adding import Flows
from everydepth.remainders import power_of_x
from everydepth.walks import numbered

# Of more nodes, or with more children of each, it takes longer to make two depths one than to take them one by one.
SMALL = 12
CHILDREN = 6

# Up to this depth it would take longer to write the sums out.
SOON = 6

# Tried one behind the other: greater ones for greater coefficients. 0 stands for no prime, but exact integers.
PRIMES = (2 ** 61 - 1, (2 ** 64) ** 8 * 2 ** 9 - 1, 0)


class Sums:
    """Nodes put together to kinds, of which each has one number at each depth.

    kinds has for each node its kind, weights and flows for each kind its weight and the tuples
    (kind, times) of its children. Numbers of nodes at the depths below that of the kinds keep
    one rule of at most as many terms as there are kinds.
    """

    def __init__(self, children, weights):
        self.kinds = lumped(children, weights)
        firsts = {}
        for node, kind in enumerate(self.kinds):
            firsts.setdefault(kind, node)
        self.weights = [weights[node] for node in firsts.values()]
        self.flows = flows_of([[self.kinds[child] for child in children[node]] for node in firsts.values()])

    def number(self, starts, depth):
        """The sum of the numbers of the starts, nodes, at a depth."""
        return self._together(starts, numbers_at(self.flows, self.weights, depth))

    def numbers(self, starts, many):
        """The list of the sums of the numbers of the starts at so many depths, from 0 on."""
        found = []
        numbers = self.weights
        for _ in range(many):
            found.append(self._together(starts, numbers))
            numbers = deeper(self.flows, numbers)
        return found

    def single_numbers(self, starts):
        """For each depth that tells of a relation the list of the numbers of the starts, each alone."""
        # A sum of multiples of the starts has as many entries as there are kinds, so as many depths tell.
        found = []
        numbers = self.weights
        for _ in self.flows:
            found.append([numbers[self.kinds[node]] for node in starts])
            numbers = deeper(self.flows, numbers)
        return found

    def first_unlike(self, starts, others):
        """The least depth at which some starts and some others have unlike sums, None if there is none."""
        # How often each kind is among them is all that tells; it has as many entries as there are kinds.
        more = [0] * len(self.flows)
        for node in starts:
            more[self.kinds[node]] += 1
        for node in others:
            more[self.kinds[node]] -= 1
        if not any(more):
            return None
        numbers = self.weights
        for depth in range(len(self.flows)):
            if sum([times * number for times, number in zip(more, numbers)]) != 0:
                return depth
            numbers = deeper(self.flows, numbers)
        return None

    def rule(self, starts):
        """The shortest list of integers by which each number of the starts comes of those at as many depths ahead."""
        return shortest_rule(self.numbers(starts, 2 * len(self.flows)))

    def _together(self, starts, numbers):
        return sum([numbers[self.kinds[node]] for node in starts])


def lumped(children, weights):
    """For each node the number of its kind: nodes of one kind have the same number at each depth.

    They have the same weight and as many children of each kind, in any sequence.
    """
    kinds = numbered(weights)
    while True:
        marks = [(kind, tuple(sorted([kinds[child] for child in row]))) for kind, row in zip(kinds, children)]
        finer = numbered(marks)
        if max(finer) == max(kinds):
            return kinds
        kinds = finer


def flows_of(children):
    """For each node the list of the tuples (child, times)."""
    return [flow_of(row) for row in children]


def flow_of(row):
    """The list of the tuples (child, times) of some children."""
    times = {}
    for child in row:
        times[child] = times.get(child, 0) + 1
    return list(times.items())


def reversed_flows(flows):
    """For each node the list of the tuples (node, times) that have it as a child."""
    found = [[] for flow in flows]
    for node, flow in enumerate(flows):
        for child, times in flow:
            found[child].append((node, times))
    return found


def deeper(flows, numbers):
    """For each node its number, one depth more."""
    return [sum([numbers[child] * times for child, times in flow]) for flow in flows]


def numbers_at(flows, weights, depth):
    """For each node its number at a depth."""
    numbers = weights
    if len(flows) == 2:
        return pair_at(matrix_of(flows), numbers, depth)
    # Of few nodes two depths are made one, again and again, as long as what leads there does not grow much.
    terms = terms_of(flows)
    while depth > SOON and len(flows) <= SMALL and terms <= CHILDREN * len(flows):
        twice = twice_deeper(flows)
        if terms_of(twice) > 2 * terms:
            break
        if depth % 2 == 1:
            numbers = deeper(flows, numbers)
        depth = depth // 2
        flows = twice
        terms = terms_of(flows)
    if depth <= SOON:
        for _ in range(depth):
            numbers = deeper(flows, numbers)
        return numbers
    told = Flows(flows)
    for _ in range(depth):
        numbers = told.sums(numbers)
    return numbers


def terms_of(flows):
    """How many tuples all flows have together."""
    return sum([len(flow) for flow in flows])


def twice_deeper(flows):
    """The flows by which two depths more are told at once."""
    found = []
    for flow in flows:
        times = {}
        for child, many in flow:
            for inner, more in flows[child]:
                times[inner] = times.get(inner, 0) + many * more
        found.append(list(times.items()))
    return found


def pair_at(matrix, numbers, depth):
    """The numbers of two nodes at a depth."""
    (a, b), (c, d) = matrix
    x, y = numbers
    while depth > 0:
        if depth % 2 == 1:
            x, y = a * x + b * y, c * x + d * y
        # The square of the matrix is told by what both of its sides have in common.
        both, trace = b * c, a + d
        a, b, c, d = a * a + both, b * trace, c * trace, d * d + both
        depth = depth // 2
    return [x, y]


def tables_of(flows, weights, depth):
    """The list of the lists of the numbers of all nodes at the depths up to this one."""
    tables = [weights]
    for _ in range(depth):
        tables.append(deeper(flows, tables[-1]))
    return tables


def matrix_of(flows):
    """The list of the rows, for each node how often each node is its child."""
    matrix = []
    for flow in flows:
        row = [0] * len(flows)
        for child, times in flow:
            row[child] = times
        matrix.append(row)
    return matrix


# The shortest linear rule of a sequence.


def shortest_rule(numbers):
    """The shortest list of integers f with numbers[n] the sum of f[i] * numbers[n - 1 - i], from its length on.

    The numbers are at least twice as many as the length of some such rule; then there is one
    shortest rule, and it has integers alone, as the numbers are integers for ever.
    """
    for prime in PRIMES:
        found = rule_modulo(numbers, prime)
        # Modulo a prime a rule may only be too short, or its integers too great: then it does not hold.
        if holds(found, numbers):
            return found
    return []


def rule_modulo(numbers, prime):
    """The shortest rule modulo a prime, its integers as near to 0 as they can be; the exact one if it is 0."""
    now, ahead = [1], [1]
    length, lag, ahead_gap = 0, 1, 1
    for at in range(len(numbers)):
        gap = sum([x * y for x, y in zip(now, numbers[at::-1])])
        if prime > 0:
            gap = gap % prime
        if gap == 0:
            lag += 1
            continue
        better = combined(now, ahead_gap, [0] * lag + ahead, -gap, prime)
        if 2 * length <= at:
            length = at + 1 - length
            ahead, ahead_gap, lag = now, gap, 1
        else:
            lag += 1
        now = better
    return solved_for_first(now, prime)


def combined(left, times, right, others, prime):
    """The sum of two lists, each times a number, in its least form."""
    many = max(len(left), len(right))
    left = left + [0] * (many - len(left))
    right = right + [0] * (many - len(right))
    found = [x * times + y * others for x, y in zip(left, right)]
    if prime > 0:
        return [x % prime for x in found]
    common = common_divisor(found)
    return [x // common for x in found]


def solved_for_first(row, prime):
    """The list f with row[0] * x0 + row[1] * x1 + .. zero if x0 is the sum of f[i] times the x behind it."""
    if prime == 0:
        return [-(x // row[0]) for x in row[1:]]
    turned = inverse(row[0], prime)
    found = [-x * turned % prime for x in row[1:]]
    return [x - prime if 2 * x > prime else x for x in found]


def inverse(number, prime):
    """The number whose product with this one, no multiple of the prime, is 1 modulo it."""
    left, right = number % prime, prime
    times, others = 1, 0
    while left > 1:
        part = right // left
        right, left = left, right - part * left
        others, times = times, others - part * times
    return times % prime


def holds(rule, numbers):
    """Whether the numbers keep a rule from its length on."""
    backwards = rule[::-1]
    for at in range(len(rule), len(numbers)):
        if sum([x * y for x, y in zip(backwards, numbers[at - len(rule):at])]) != numbers[at]:
            return False
    return True


def rest_by_rule(rule, numbers, depth, modulus):
    """The remainder of the number at a depth, by a rule and at least as many first numbers as it is long."""
    power = power_of_x(rule, depth, modulus)
    return sum([x * y for x, y in zip(power, numbers)]) % modulus


# All linear relations between several sequences.


def relations_between(rows, width):
    """The reduced list of the tuples of fractions w with 0 as the sum of w[i] * row[i] for each row."""
    # From the last columns on: so what is left free stands first in its tuple.
    lines = {}
    for row in rows:
        add_line(lines, list(row)[::-1])
        if len(lines) == width:
            break
    found = []
    for free in reversed(range(width)):
        if free not in lines:
            weights = [(0, 1)] * width
            weights[free] = (1, 1)
            for at, line in lines.items():
                weights[at] = fraction(-line[free], line[at])
            found.append(tuple(weights[::-1]))
    return found


def add_line(lines, row):
    """Puts a row among lines, by the first place of each that is not 0; there all others have 0."""
    for at, line in lines.items():
        row = cleared(row, line, at)
    places = [at for at, x in enumerate(row) if x != 0]
    if places:
        first = places[0]
        for at in list(lines):
            lines[at] = cleared(lines[at], row, first)
        lines[first] = row


def cleared(row, line, at):
    """The multiple of a row, less one of a line, that has 0 at a place, in its least form."""
    if row[at] == 0:
        return row
    found = [x * line[at] - y * row[at] for x, y in zip(row, line)]
    common = common_divisor(found)
    return [x // common for x in found]


def common_divisor(numbers):
    """The greatest common divisor of some numbers, 1 if all are 0."""
    found = 0
    for number in numbers:
        found = gcd(found, number)
        if found == 1:
            return 1
    return max(1, found)


def fraction(above, below):
    """A fraction in lowest terms; below is not 0."""
    common = gcd(above, below)
    if below < 0:
        common = -common
    return (above // common, below // common)
