"""[3.2] and [3.3]: trees, what they cost, their order, and how many there are."""

import itertools
import unittest

from cheapread.grammars import Grammar, count_trees, parse, tree_cost
from everything import all_trees, grammar_samples, told_tree

FAR = 999999999999999

# Each rule has a cost of its own, so that none can stand for another.
RULES = [
    ("leaf", 0, 5, 1),
    ("leaf", 1, 6, 20),
    ("pair", 0, 0, 1, 300),
    ("pair", 1, 1, 0, 4000),
    ("leaf", 1, 5, -50000),
]


def all_tuples(numbers, depth):
    """Every tuple of these numbers, alone or with two such tuples, up to this depth."""
    found = [(number,) for number in numbers]
    for _ in range(depth - 1):
        found = [(number,) for number in numbers] + list(itertools.product(numbers, found, found))
    return found


class Costs(unittest.TestCase):
    def test_by_hand(self):
        grammar = Grammar(2, RULES)
        self.assertEqual(tree_cost(grammar, (0,)), 1)
        self.assertEqual(tree_cost(grammar, (4,)), -50000)
        self.assertEqual(tree_cost(grammar, (2, (0,), (1,))), 321)
        self.assertEqual(tree_cost(grammar, (3, (1,), (0,))), 4021)
        self.assertEqual(tree_cost(grammar, (2, (2, (0,), (1,)), (3, (1,), (0,)))), 300 + 321 + 4021)

    def test_a_number_of_no_rule(self):
        grammar = Grammar(2, RULES)
        for number in (-FAR, -6, -5, -4, -3, -2, -1, 5, 6, 400, FAR):
            self.assertIsNone(tree_cost(grammar, (number,)))
            self.assertIsNone(tree_cost(grammar, (number, (0,), (1,))))
            self.assertIsNone(tree_cost(grammar, (2, (number,), (1,))))
            self.assertIsNone(tree_cost(grammar, (2, (0,), (number,))))
            self.assertIsNone(tree_cost(grammar, (2, (0,), (3, (1,), (number,)))))
            self.assertIsNone(tree_cost(grammar, (2, (0,), (number, (1,), (0,)))))

    def test_a_leaf_rule_with_two_tuples(self):
        grammar = Grammar(2, RULES)
        self.assertIsNone(tree_cost(grammar, (0, (0,), (1,))))
        self.assertIsNone(tree_cost(grammar, (2, (0, (0,), (1,)), (1,))))
        self.assertIsNone(tree_cost(grammar, (2, (0,), (1, (1,), (0,)))))

    def test_a_pair_rule_alone(self):
        grammar = Grammar(2, RULES)
        self.assertIsNone(tree_cost(grammar, (2,)))
        self.assertIsNone(tree_cost(grammar, (2, (2,), (1,))))
        self.assertIsNone(tree_cost(grammar, (2, (0,), (3,))))

    def test_a_part_with_another_symbol(self):
        grammar = Grammar(2, RULES)
        self.assertIsNone(tree_cost(grammar, (2, (1,), (1,))))
        self.assertIsNone(tree_cost(grammar, (2, (0,), (0,))))
        self.assertIsNone(tree_cost(grammar, (2, (1,), (0,))))
        self.assertIsNone(tree_cost(grammar, (2, (2, (0,), (0,)), (1,))))
        self.assertIsNone(tree_cost(grammar, (2, (0,), (2, (0,), (1,)))))

    def test_deep_tuples(self):
        for depth in (30, 100, 3000):
            grammar = Grammar(1, [("leaf", 0, 0, 1), ("pair", 0, 0, 0, 10)])
            left, right, wrong = (0,), (0,), (2,)
            for _ in range(depth):
                left, right, wrong = (1, left, (0,)), (1, (0,), right), (1, (0,), wrong)
            self.assertEqual(tree_cost(grammar, left), 11 * depth + 1)
            self.assertEqual(tree_cost(grammar, right), 11 * depth + 1)
            self.assertIsNone(tree_cost(grammar, wrong))

    def test_against_all_tuples(self):
        for many, rules, grammar, row, goal in grammar_samples(150, 1):
            numbers = range(-1, len(rules) + 1)
            for tree in all_tuples(numbers, 2) + all_tuples(numbers[:4], 3)[:800]:
                told = told_tree(rules, tree)
                self.assertEqual(tree_cost(grammar, tree), told and told[2], (rules, tree))


class Nothing(unittest.TestCase):
    def unread(self, grammar, row, goal):
        self.assertIsNone(parse(grammar, row, goal))
        self.assertEqual(count_trees(grammar, row, goal), 0)

    def test_the_empty_row(self):
        for grammar in (Grammar(2, RULES), Grammar(1, []), Grammar(1, [("pair", 0, 0, 0, -1)])):
            for goal in (-1, 0, 1, 2):
                self.unread(grammar, [], goal)

    def test_goals_that_are_no_symbols(self):
        for goal in (-FAR, -3, -2, -1, 2, 3, 20, FAR):
            for row in ([5], [6], [5, 6], [5, 6, 6]):
                self.unread(Grammar(2, RULES), row, goal)

    def test_rows_that_have_no_tree(self):
        for row in ([6], [7], [-5], [6, 5], [5, 7], [7, 6], [5, 6, 7], [6, 6, 6]):
            self.unread(Grammar(2, RULES), row, 0)

    def test_pairs_without_leaves(self):
        for row in ([0], [0, 0], [0, 0, 0]):
            self.unread(Grammar(1, [("pair", 0, 0, 0, 0)] * 3), row, 0)

    def test_a_symbol_that_only_other_symbols_lead_to(self):
        grammar = Grammar(3, RULES)
        for row in ([5], [5, 6]):
            self.unread(grammar, row, 2)


class Order(unittest.TestCase):
    def first(self, rules, row, goal, expected):
        self.assertEqual(all_trees(rules, row, goal)[0], expected)
        self.assertEqual(parse(Grammar(1 + max(rule[1] for rule in rules), rules), row, goal), expected)

    def test_costs_ahead_of_orders(self):
        self.first([("leaf", 0, 0, 2), ("leaf", 0, 0, 1), ("leaf", 0, 0, 0)], [0], 0, (0, (2,)))
        self.first([("leaf", 0, 0, 0), ("leaf", 0, 0, -1)], [0], 0, (-1, (1,)))
        two = [("leaf", 0, 0, 0), ("pair", 0, 0, 0, 2), ("pair", 0, 0, 0, 1)]
        self.first(two, [0, 0], 0, (1, (2, (0,), (0,))))

    def test_like_costs_by_the_rules_at_the_top(self):
        self.first([("leaf", 0, 0, 7)] * 3, [0], 0, (7, (0,)))
        two = [("pair", 0, 1, 1, 3), ("pair", 0, 2, 2, 3), ("leaf", 2, 0, 0), ("leaf", 1, 0, 0)]
        self.first(two, [0, 0], 0, (3, (0, (3,), (3,))))

    def test_the_top_counts_ahead_of_what_is_below(self):
        # The first top needs the last leaves.
        two = [("leaf", 2, 0, 0), ("pair", 0, 1, 1, 0), ("pair", 0, 2, 2, 0), ("leaf", 1, 0, 0)]
        self.first(two, [0, 0], 0, (0, (1, (3,), (3,))))

    def test_splits_of_like_costs(self):
        # One and the same rule at the top: whether the left tree is the short one hangs on the leaf's number.
        self.first([("leaf", 0, 0, 0), ("pair", 0, 0, 0, 0)], [0] * 3, 0, (0, (1, (0,), (1, (0,), (0,)))))
        self.first([("pair", 0, 0, 0, 0), ("leaf", 0, 0, 0)], [0] * 3, 0, (0, (0, (0, (1,), (1,)), (1,))))

    def test_the_left_tree_counts_ahead_of_the_right_one(self):
        rules = [
            ("pair", 0, 1, 2, 0), ("leaf", 1, 0, 0), ("leaf", 2, 0, 5),
            ("pair", 1, 1, 1, 5), ("pair", 2, 2, 2, 0), ("leaf", 2, 0, 0), ("leaf", 1, 0, 0),
        ]
        self.first(rules, [0] * 3, 0, (0, (0, (1,), (4, (5,), (5,)))))

    def test_a_split_in_the_middle(self):
        rules = [("pair", 0, 1, 1, 0), ("pair", 1, 2, 2, -9), ("leaf", 2, 0, 0), ("leaf", 1, 0, 0)]
        self.first(rules, [0] * 4, 0, (-18, (0, (1, (2,), (2,)), (1, (2,), (2,)))))

    def test_a_dear_left_tree_can_be_part_of_the_cheapest(self):
        rules = [("leaf", 0, 0, 5), ("leaf", 1, 0, 0), ("pair", 0, 0, 0, 0), ("pair", 0, 1, 0, 50)]
        self.first(rules, [0, 0], 0, (10, (2, (0,), (0,))))


class AgainstAll(unittest.TestCase):
    def test_parse(self):
        for many, rules, grammar, row, goal in grammar_samples(800, 2):
            expected = all_trees(rules, row, goal)
            self.assertEqual(parse(grammar, row, goal), expected[0] if expected else None, (rules, row, goal))

    def test_each_goal(self):
        for many, rules, grammar, row, _ in grammar_samples(200, 3):
            for goal in range(-many, many + 2):
                expected = all_trees(rules, row, goal)
                self.assertEqual(parse(grammar, row, goal), expected[0] if expected else None, (rules, row, goal))
                self.assertEqual(count_trees(grammar, row, goal), len(expected), (rules, row, goal))

    def test_count_trees(self):
        for many, rules, grammar, row, goal in grammar_samples(800, 4):
            self.assertEqual(count_trees(grammar, row, goal), len(all_trees(rules, row, goal)), (rules, row, goal))

    def test_tree_cost_of_all_trees(self):
        for many, rules, grammar, row, goal in grammar_samples(300, 5):
            for cost, tree in all_trees(rules, row, goal)[:200]:
                self.assertEqual(tree_cost(grammar, tree), cost, (rules, tree))

    def test_the_samples_hold_what_they_should(self):
        names = ("none", "one", "like costs", "first alike", "first alike, split otherwise", "below 0", "empty row",
                 "no symbol", "rules alike")
        found = dict.fromkeys(names, 0)
        for many, rules, grammar, row, goal in grammar_samples(800, 2):
            trees = all_trees(rules, row, goal)
            costs = [cost for cost, tree in trees]
            first = [tree for cost, tree in trees if cost == costs[0] and tree[0] == trees[0][1][0] and len(row) > 1]
            found["none"] += bool(row) and not costs
            found["one"] += len(costs) == 1
            found["like costs"] += 1 < len(set(costs)) < len(costs)
            found["first alike"] += len(costs) > 1 and costs[0] == costs[1]
            found["first alike, split otherwise"] += len({len(told_tree(rules, tree[1])[1]) for tree in first}) > 1
            found["below 0"] += bool(costs) and costs[0] < 0
            found["empty row"] += not row
            found["no symbol"] += not 0 <= goal < many
            found["rules alike"] += len(set(rules)) < len(rules)
        for what, often in found.items():
            self.assertGreater(often, 15, what)


class Kinds(unittest.TestCase):
    def check_tree(self, tree):
        self.assertIs(type(tree), tuple)
        self.assertIn(len(tree), (1, 3))
        self.assertIs(type(tree[0]), int)
        for part in tree[1:]:
            self.check_tree(part)

    def test_of_parse(self):
        for row in ([5], [5, 6], [5, 6, 5, 5]):
            found = parse(Grammar(2, RULES), row, 0)
            self.assertIs(type(found), tuple)
            self.assertEqual(len(found), 2)
            self.assertIs(type(found[0]), int)
            self.check_tree(found[1])

    def test_of_costs_and_counts(self):
        grammar = Grammar(2, RULES)
        self.assertIs(type(tree_cost(grammar, (2, (0,), (1,)))), int)
        for row in ([], [5], [5, 6], [7]):
            self.assertIs(type(count_trees(grammar, row, 0)), int)


if __name__ == "__main__":
    unittest.main()
