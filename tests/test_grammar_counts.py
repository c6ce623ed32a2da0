"""[3.1]: what a grammar is, and where BadGrammar is raised."""

import copy
import unittest

from cheapread.errors import BadChain, BadGrammar, BadWords, ReadError
from cheapread.grammars import Grammar, count_trees, parse, tree_cost

FAR = 999999999999999
LEAF = ("leaf", 0, 5, 1)


class Taken(unittest.TestCase):
    def test_each_number_of_symbols_from_1_to_20(self):
        for many in range(1, 21):
            last = many - 1
            grammar = Grammar(many, [("leaf", last, 5, 1), ("pair", last, last, last, 2)])
            self.assertEqual(grammar.many, many)
            self.assertEqual(parse(grammar, [5, 5], last), (4, (1, (0,), (0,))))

    def test_no_rules(self):
        for many in (1, 20):
            grammar = Grammar(many, [])
            self.assertEqual(grammar.rules, [])
            self.assertIsNone(parse(grammar, [0], 0))
            self.assertEqual(count_trees(grammar, [0], 0), 0)
            self.assertIsNone(tree_cost(grammar, (0,)))

    def test_up_to_400_rules_that_are_alike(self):
        for many in (1, 2, 399, 400):
            grammar = Grammar(1, [LEAF] * many)
            self.assertEqual(grammar.rules, [LEAF] * many)
            self.assertEqual(count_trees(grammar, [5], 0), many)
            self.assertEqual(tree_cost(grammar, (many - 1,)), 1)
        self.assertEqual(count_trees(Grammar(1, [LEAF] + [("pair", 0, 0, 0, 0)] * 399), [5, 5], 0), 399)

    def test_any_whole_number_is_a_sign(self):
        for sign in (-FAR, -1, 0, 20, 400, FAR):
            grammar = Grammar(1, [("leaf", 0, sign, 3)])
            self.assertEqual(parse(grammar, [sign], 0), (3, (0,)))
            self.assertIsNone(parse(grammar, [sign + 1], 0))

    def test_costs_of_any_kind(self):
        for cost in (0, -1, FAR, -FAR, 10 ** 18):
            grammar = Grammar(1, [("leaf", 0, 0, cost), ("pair", 0, 0, 0, cost)])
            self.assertEqual(parse(grammar, [0, 0], 0), (3 * cost, (1, (0,), (0,))))

    def test_the_values(self):
        rules = [("pair", 1, 0, 2, -4), LEAF, ("leaf", 2, -5, 0), LEAF]
        grammar = Grammar(3, rules)
        self.assertIs(type(grammar.many), int)
        self.assertEqual(grammar.many, 3)
        self.assertIs(type(grammar.rules), list)
        self.assertEqual(grammar.rules, [("pair", 1, 0, 2, -4), LEAF, ("leaf", 2, -5, 0), LEAF])
        self.assertIsNot(grammar.rules, rules)
        self.assertTrue(all(type(rule) is tuple for rule in grammar.rules))

    def test_the_arguments_have_their_names(self):
        grammar = Grammar(many=1, rules=[LEAF])
        self.assertEqual(tree_cost(grammar=grammar, tree=(0,)), 1)
        self.assertEqual(parse(grammar=grammar, row=[5], goal=0), (1, (0,)))
        self.assertEqual(count_trees(grammar=grammar, row=[5], goal=0), 1)


class Refused(unittest.TestCase):
    def refuse(self, many, rules):
        before = copy.deepcopy(rules)
        with self.subTest(many=many, rules=rules[:4], size=len(rules)):
            with self.assertRaises(BadGrammar) as caught:
                Grammar(many, rules)
            self.assertIsInstance(caught.exception, ReadError)
            self.assertIsInstance(caught.exception, ValueError)
            self.assertNotIsInstance(caught.exception, (BadChain, BadWords))
            self.assertEqual(rules, before)

    def test_too_few_symbols(self):
        for many in (0, -1, -20, -FAR):
            self.refuse(many, [])
            self.refuse(many, [LEAF])

    def test_too_many_symbols(self):
        for many in (21, 22, 400, FAR):
            self.refuse(many, [])
            self.refuse(many, [LEAF])

    def test_too_many_rules(self):
        for many in (401, 402, 1000):
            self.refuse(1, [LEAF] * many)
            self.refuse(20, [("pair", 0, 0, 0, 0)] * many)

    def test_symbols_that_are_not_there(self):
        for many in (1, 2, 20):
            for symbol in (-FAR, -many - 1, -many, -1, many, many + 1, 21, FAR):
                for wrong in (
                    ("leaf", symbol, 0, 0),
                    ("pair", symbol, 0, 0, 0),
                    ("pair", 0, symbol, 0, 0),
                    ("pair", 0, 0, symbol, 0),
                ):
                    self.refuse(many, [wrong])
                    self.refuse(many, [LEAF, LEAF, wrong])
                    self.refuse(many, [wrong, LEAF])


if __name__ == "__main__":
    unittest.main()
