import unittest
from random import Random

from everydepth.sums import (
    PRIMES, Sums, holds, inverse, numbers_at, relations_between, rest_by_rule, rule_modulo, shortest_rule,
)
from tests.model_numbers import plain_relations, plain_rule


def made_machine(random, nodes, most):
    children = [[random.randrange(nodes) for _ in range(random.randrange(most + 1))] for _ in range(nodes)]
    return children, [random.randrange(-1, 2) for _ in range(nodes)]


def plain_numbers(children, weights, many):
    rows = [list(weights)]
    while len(rows) < many:
        rows.append([sum(rows[-1][child] for child in row) for row in children])
    return rows


class SumsTest(unittest.TestCase):
    def test_numbers(self):
        random = Random(1)
        for _ in range(120):
            children, weights = made_machine(random, random.randrange(1, 30), 5)
            wanted = plain_numbers(children, weights, 100)
            starts = [random.randrange(len(children)) for _ in range(random.randrange(1, 4))]
            sums = Sums(children, weights)
            told = [sum(row[node] for node in starts) for row in wanted]
            self.assertEqual(sums.numbers(starts, 100), told)
            for depth in (0, 1, 2, 5, 30, 64, 99):
                self.assertEqual(sums.number(starts, depth), told[depth])
                flows = [[(child, row.count(child)) for child in set(row)] for row in children]
                self.assertEqual(numbers_at(flows, weights, depth), wanted[depth])

    def test_kinds_have_the_same_numbers(self):
        random = Random(2)
        fewer = 0
        for _ in range(80):
            children, weights = made_machine(random, random.randrange(1, 20), 2)
            wanted = list(zip(*plain_numbers(children, weights, 50)))
            kinds = Sums(children, weights).kinds
            for a in range(len(kinds)):
                for b in range(a):
                    if kinds[a] == kinds[b]:
                        self.assertEqual(wanted[a], wanted[b])
                        fewer += 1
        self.assertGreater(fewer, 100)

    def test_first_unlike(self):
        random = Random(3)
        found = set()
        for _ in range(400):
            children, weights = made_machine(random, random.randrange(2, 9), 2)
            weights = [0] * (len(weights) - 1) + [1]
            rows = plain_numbers(children, weights, 60)
            nodes = range(len(children))
            starts, others = [[random.choice(nodes) for _ in range(random.randrange(3))] for _ in range(2)]
            depths = [n for n, row in enumerate(rows) if sum(row[a] for a in starts) != sum(row[b] for b in others)]
            told = Sums(children, weights).first_unlike(starts, others)
            self.assertEqual(told, depths[0] if depths else None)
            found.add(told)
        self.assertTrue({None, 0, 1, 2, 3} <= found)

    def test_first_unlike_as_late_as_it_can_be(self):
        # Nodes that stand in a row and end in one that weighs.
        children = [[node + 1] for node in range(40)] + [[]]
        self.assertEqual(Sums(children, [0] * 40 + [1]).first_unlike([0], []), 40)


class RuleTest(unittest.TestCase):
    def sequences(self):
        random = Random(4)
        for _ in range(60):
            children, weights = made_machine(random, random.randrange(1, 7), 6)
            yield [row[0] for row in plain_numbers(children, weights, 20)]
        yield [0] * 20
        yield [5] + [0] * 19
        yield [0] * 6 + [7] + [0] * 13

    def test_shortest_rules(self):
        for numbers in self.sequences():
            wanted = plain_rule(numbers)
            self.assertTrue(all(below == 1 for _, below in wanted))
            self.assertEqual(shortest_rule(numbers), [above for above, _ in wanted])

    def test_each_prime_and_exact_integers(self):
        for numbers in self.sequences():
            for prime in PRIMES:
                self.assertEqual(rule_modulo(numbers, prime), shortest_rule(numbers))

    def test_a_prime_that_fails(self):
        # Modulo 3 all of these but the first are 0, and 7 is nearer to 0 as 1.
        numbers = [1, 3, 9, 27, 81, 243]
        self.assertEqual(rule_modulo(numbers, 3), [0])
        self.assertFalse(holds([0], numbers))
        self.assertEqual(rule_modulo([7 ** n for n in range(6)], 3), [1])
        self.assertEqual(rule_modulo([7 ** n for n in range(6)], 0), [7])

    def test_integers_greater_than_the_first_prime(self):
        for great in (10 ** 18, 10 ** 30, -10 ** 40, 10 ** 170):
            self.assertEqual(shortest_rule([great ** n for n in range(4)]), [great])

    def test_inverse(self):
        for number in list(range(1, 30)) + [PRIMES[0] - 1, 10 ** 18]:
            self.assertEqual(number * inverse(number, PRIMES[0]) % PRIMES[0], 1)
            self.assertEqual(number * inverse(number, PRIMES[1]) % PRIMES[1], 1)

    def test_rest_by_rule(self):
        for numbers in self.sequences():
            rule = shortest_rule(numbers)
            for depth, number in enumerate(numbers):
                for modulus in (1, 2, 9, 10 ** 20):
                    self.assertEqual(rest_by_rule(rule, numbers[:len(rule)], depth, modulus), number % modulus)


class RelationsTest(unittest.TestCase):
    def test_reduced_form(self):
        random = Random(5)
        found = set()
        for _ in range(300):
            width = random.randrange(1, 7)
            rank = random.randrange(width + 1)
            some = [[random.randrange(-3, 4) for _ in range(width)] for _ in range(rank)]
            rows = []
            for _ in range(8):
                times = [random.randrange(-2, 3) for _ in some]
                rows.append([sum(t * row[at] for t, row in zip(times, some)) for at in range(width)])
            told = relations_between(rows, width)
            self.assertEqual(told, plain_relations(rows, width))
            found.add((width, len(told)))
        self.assertTrue({(6, 0), (6, 6), (6, 3), (1, 0), (1, 1)} <= found)


if __name__ == "__main__":
    unittest.main()
