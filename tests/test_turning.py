"""[4.1] and [0.2]: a chain and the grammar made of it have as many readings of each row, at the same costs."""

import random
import unittest

from cheapread.chains import Chain, cheapest, count
from cheapread.grammars import Grammar, count_trees, parse, tree_cost
from cheapread.turning import as_grammar
from everything import all_readings, all_trees, even, parts_of, samples


class AgainstAll(unittest.TestCase):
    def check(self, parts, row):
        chain = Chain(*parts)
        grammar = as_grammar(chain)
        readings = all_readings(parts, row)
        trees = all_trees(grammar.rules, row, 0)
        costs = [cost for cost, states in readings]
        self.assertEqual([cost for cost, tree in trees], costs, (parts, row))
        self.assertEqual([tree_cost(grammar, tree) for cost, tree in trees], costs, (parts, row))
        self.assertEqual(count_trees(grammar, row, 0), len(readings), (parts, row))
        found = parse(grammar, row, 0)
        self.assertEqual(found and found[0], costs[0] if costs else None, (parts, row))

    def test_many_chains_and_rows(self):
        for parts, chain, row in samples(400, 21):
            self.check(parts, row)

    def test_each_length_of_a_row(self):
        for parts, chain, row in samples(60, 22):
            for length in range(5):
                self.check(parts, [place % len(parts[2][0]) for place in range(length)])

    def test_the_empty_row(self):
        for parts in (even(1, 1), even(8, 8), even(3, 2, None), even(2, 2, -5)):
            grammar = as_grammar(Chain(*parts))
            self.assertIsNone(parse(grammar, [], 0))
            self.assertEqual(count_trees(grammar, [], 0), 0)
            self.check(parts, [])

    def test_signs_that_are_not_there(self):
        for sign in (-999999999999999, -2, -1, 2, 3, 999999999999999):
            for row in ([sign], [0, sign], [sign, 0], [0, sign, 1]):
                self.assertEqual(count_trees(as_grammar(Chain(*even(3, 2))), row, 0), 0)
                self.check(even(3, 2), row)

    def test_one_cost_that_is_none(self):
        # Each cost of a chain by itself, so that none of them goes unasked.
        for which in range(4):
            for state in range(2):
                for other in range(2):
                    parts = even(2, 2, 1)
                    if which in (0, 3):
                        parts[which][state] = None
                    else:
                        parts[which][state][other] = None
                    for row in ([0], [1], [0, 1], [1, 0, 0]):
                        self.check(parts, row)

    def test_each_cost_counts_where_it_should(self):
        # Each part has a power of 10 of its own, so that each sum tells what it is made of.
        powers = iter(range(100))
        parts = parts_of(3, 2, lambda: 10 ** next(powers))
        for row in ([0], [1], [0, 1], [1, 1, 0], [0, 1, 0, 0]):
            self.check(parts, row)

    def test_nothing_can_be(self):
        for size in (1, 3, 8):
            grammar = as_grammar(Chain(*even(size, 2, None)))
            self.assertEqual(grammar.rules, [])
            for row in ([], [0], [0, 1]):
                self.assertEqual(count_trees(grammar, row, 0), 0)


class Bounds(unittest.TestCase):
    def test_each_size_keeps_to_the_bounds(self):
        for size in range(1, 9):
            for width in range(1, 9):
                grammar = as_grammar(Chain(*even(size, width)))
                self.assertIsInstance(grammar, Grammar)
                self.assertLessEqual(grammar.many, 20)
                self.assertLessEqual(len(grammar.rules), 400)
                again = Grammar(grammar.many, grammar.rules)
                self.assertEqual(count_trees(again, [0, width - 1], 0), size ** 2)

    def test_rules_are_as_the_document_says(self):
        for parts, chain, row in samples(100, 23):
            for rule in as_grammar(chain).rules:
                self.assertIs(type(rule), tuple)
                self.assertIn((rule[0], len(rule)), (("leaf", 4), ("pair", 5)))
                self.assertTrue(all(type(part) is int for part in rule[1:]), rule)

    def test_the_argument_has_its_name(self):
        self.assertEqual(count_trees(as_grammar(chain=Chain(*even(2, 2))), [0, 1], 0), 4)


class Large(unittest.TestCase):
    def test_counts_of_long_rows(self):
        grammar = as_grammar(Chain(*even(8, 8)))
        self.assertEqual(count_trees(grammar, [place % 8 for place in range(30)], 0), 8 ** 30)
        self.assertEqual(count_trees(grammar, [8] * 30, 0), 0)

    def test_long_rows(self):
        luck = random.Random(24)
        for costs in ((-1, 0, 1, None), (-999999999999999, 999999999999999, 7), tuple(range(-99, 100))):
            chain = Chain(*parts_of(8, 8, lambda: luck.choice(costs)))
            grammar = as_grammar(chain)
            row = [luck.randrange(8) for place in range(30)]
            self.assertEqual(count_trees(grammar, row, 0), count(chain, row))
            self.assertEqual(parse(grammar, row, 0)[0], cheapest(chain, row)[0])


if __name__ == "__main__":
    unittest.main()
