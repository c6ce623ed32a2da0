"""Rows of 30 signs with 20 symbols and 400 rules, where going through all trees would not end."""

import math
import random
import time
import unittest

from cheapread.grammars import Grammar, count_trees, parse, tree_cost
from everything import order_of, told_tree

LENGTH = 30
SYMBOLS = 20


def shapes(leaves):
    """How many trees with so many leaves there are, if each has two parts or none."""
    return math.comb(2 * leaves - 2, leaves - 1) // leaves


def round_rules(leaf_cost, pair_cost):
    """20 leaf rules and 380 pair rules, the same for each symbol but for where it stands in the round."""
    rules = [("leaf", symbol, 0, leaf_cost) for symbol in range(SYMBOLS)]
    for symbol in range(SYMBOLS):
        for step in range(SYMBOLS - 1):
            rules.append(("pair", symbol, (symbol + step) % SYMBOLS, (symbol + 3 * step + 1) % SYMBOLS, pair_cost))
    return rules


def chosen_rules(luck, costs, signs):
    rules = [("leaf", symbol, sign, luck.choice(costs)) for symbol in range(SYMBOLS) for sign in range(signs)]
    while len(rules) < 400:
        three = [luck.randrange(SYMBOLS) for place in range(3)]
        rules.append(("pair", *three, luck.choice(costs)))
    luck.shuffle(rules)
    return rules


def plain_first(rules, row):
    """For each symbol the least pair of a cost and an order, each rule and split with every other."""
    known = {}
    for length in range(1, len(row) + 1):
        for start in range(len(row) - length + 1):
            end = start + length
            for number, (kind, symbol, *rest, cost) in enumerate(rules):
                if kind == "leaf" and row[start:end] == rest:
                    found = [(cost, [number])]
                elif kind == "pair":
                    found = []
                    for middle in range(start + 1, end):
                        left = known.get((start, middle, rest[0]))
                        right = known.get((middle, end, rest[1]))
                        if left and right:
                            found.append((cost + left[0] + right[0], [number] + left[1] + right[1]))
                else:
                    found = []
                if found:
                    best = min(found)
                    known[start, end, symbol] = min(best, known.get((start, end, symbol), best))
    return {symbol: known.get((0, len(row), symbol)) for symbol in range(-1, SYMBOLS + 1)}


class Large(unittest.TestCase):
    def test_counts_are_exact(self):
        grammar = Grammar(SYMBOLS, round_rules(0, 0))
        self.assertEqual(len(grammar.rules), 400)
        started = time.monotonic()
        for goal in (0, 7, 19):
            self.assertEqual(count_trees(grammar, [0] * LENGTH, goal), 19 ** 29 * shapes(LENGTH))
        self.assertLess(time.monotonic() - started, 20)
        self.assertEqual(count_trees(grammar, [0] * (LENGTH - 1) + [1], 0), 0)
        self.assertEqual(count_trees(grammar, [0] * LENGTH, 20), 0)

    def test_counts_of_one_symbol(self):
        grammar = Grammar(1, [("leaf", 0, 0, 0)] * 10 + [("pair", 0, 0, 0, 0)] * 390)
        for length in (1, 2, 3, 10, LENGTH):
            expected = 10 ** length * 390 ** (length - 1) * shapes(length)
            self.assertEqual(count_trees(grammar, [0] * length, 0), expected)

    def test_all_cost_the_same(self):
        for leaf_cost, pair_cost in ((0, 0), (-3, 5), (999999999999999, 999999999999999)):
            grammar = Grammar(SYMBOLS, round_rules(leaf_cost, pair_cost))
            started = time.monotonic()
            cost, tree = parse(grammar, [0] * LENGTH, 3)
            self.assertLess(time.monotonic() - started, 10)
            self.assertEqual(cost, LENGTH * leaf_cost + (LENGTH - 1) * pair_cost)
            # Leaves have lesser numbers, so the left tree is a leaf wherever it can be.
            symbol, expected = 3, []
            for place in range(LENGTH - 1):
                expected += [SYMBOLS + symbol * (SYMBOLS - 1), symbol]
                symbol = (symbol + 1) % SYMBOLS
            self.assertEqual(order_of(tree), expected + [symbol])
            self.assertEqual(tree_cost(grammar, tree), cost)

    def test_only_one_shape_is_cheap(self):
        rules = [("pair", 0, 0, 0, 1), ("leaf", 0, 0, 1), ("pair", 0, 0, 1, -1), ("leaf", 1, 0, 0)]
        rules += [("pair", symbol, symbol, symbol, -999) for symbol in range(2, SYMBOLS)]
        cost, tree = parse(Grammar(SYMBOLS, rules), [0] * LENGTH, 0)
        self.assertEqual(cost, 1 - 29)
        self.assertEqual(order_of(tree), [2] * 29 + [1] + [3] * 29)

    def test_what_is_told_is_a_tree_of_the_row(self):
        luck = random.Random(11)
        for costs in ((0, 1), (-1, 0, 1), tuple(range(-999, 1000))):
            rules = chosen_rules(luck, costs, 2)
            grammar = Grammar(SYMBOLS, rules)
            row = [luck.randrange(2) for place in range(LENGTH)]
            cost, tree = parse(grammar, row, 4)
            self.assertEqual(told_tree(rules, tree), (4, row, cost))
            self.assertEqual(tree_cost(grammar, tree), cost)

    def test_against_each_rule_and_split(self):
        luck = random.Random(12)
        for costs in ((0,), (0, 1), (-1, 0, 1), tuple(range(-99, 100))):
            for signs in (1, 3):
                rules = chosen_rules(luck, costs, signs)
                grammar = Grammar(SYMBOLS, rules)
                row = [luck.randrange(signs) for place in range(8)]
                for goal, expected in plain_first(rules, row).items():
                    found = parse(grammar, row, goal)
                    self.assertEqual(found and (found[0], order_of(found[1])), expected)

    def test_somewhat_longer_rows_are_not_refused(self):
        grammar = Grammar(1, [("leaf", 0, 0, 1), ("pair", 0, 0, 0, 0)])
        self.assertEqual(count_trees(grammar, [0] * 40, 0), shapes(40))
        cost, tree = parse(grammar, [0] * 40, 0)
        self.assertEqual((cost, order_of(tree)), (40, [1, 0] * 39 + [0]))


if __name__ == "__main__":
    unittest.main()
