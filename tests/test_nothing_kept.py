"""[0.1]: nothing that is handed in is changed or kept; lists that are told are new ones."""

import copy
import unittest

from cheapread.chains import Chain, at_each, cheapest, cost_of, count, few
from cheapread.grammars import Grammar, count_trees, parse, tree_cost
from cheapread.turning import as_grammar
from cheapread.words import Words, count_cuts, cut, cut_cost
from everything import grammar_samples, samples, word_samples

ROW = [0, 1, 1, 0]
TEXT = "abab"


def parts():
    return [1, 2, 0], [[1, 0, 2], [0, None, 1], [3, 1, 0]], [[0, 1], [1, None], [2, 0]], [0, 5, 1]


def answers(chain, row):
    return copy.deepcopy([
        chain.size(), cost_of(chain, row, [0] * len(row)), few(chain, row, 50), few(chain, row, 3),
        cheapest(chain, row), count(chain, row), at_each(chain, row),
    ])


def lists_of_words():
    return [("a", 1), ("b", -2), ("ab", 0)], [(0, 1, 1), (1, 0, -3), (2, 2, 4)]


def word_answers(words, text):
    return copy.deepcopy([cut(words, text), count_cuts(words, text), cut_cost(words, text, [2, 2])])


def some_rules():
    return [("leaf", 0, 0, 1), ("leaf", 1, 1, -2), ("pair", 0, 0, 1, 3), ("pair", 1, 1, 0, -4), ("pair", 0, 0, 0, 0)]


def grammar_answers(grammar, row):
    asked = [tell(grammar, row, goal) for tell in (parse, count_trees) for goal in (-1, 0, 1, 2)]
    return asked + [tree_cost(grammar, (4, (0,), (2, (0,), (1,))))]


def spoil(told):
    """Every list within what was told is changed."""
    if isinstance(told, (list, tuple)):
        for part in told:
            spoil(part)
    if isinstance(told, list):
        told.append(77)
        told[0] = 88


class HandedIn(unittest.TestCase):
    def test_the_lists_of_a_chain_are_not_changed(self):
        given = parts()
        answers(Chain(*given), ROW)
        self.assertEqual(given, parts())

    def test_rows_and_states_are_not_changed(self):
        for lists, chain, row in samples(50, 8):
            before = copy.deepcopy((lists, row))
            states = [0] * len(row)
            answers(chain, row)
            cost_of(chain, row, states)
            self.assertEqual((lists, row), before)
            self.assertEqual(states, [0] * len(row))

    def test_a_chain_stays_when_its_lists_are_changed(self):
        expected = answers(Chain(*parts()), ROW)
        for which in range(4):
            given = parts()
            chain = Chain(*given)
            spoil(given[which])
            self.assertEqual(answers(chain, ROW), expected)
            given[which].clear()
            self.assertEqual(answers(chain, ROW), expected)

    def test_rows_that_are_one_and_the_same_list(self):
        line = [0, 1]
        chain = Chain(line, [line, line], [line, line], line)
        expected = answers(Chain([0, 1], [[0, 1], [0, 1]], [[0, 1], [0, 1]], [0, 1]), ROW)
        line[0] = None
        self.assertEqual(answers(chain, ROW), expected)

    def test_one_chain_is_not_changed_by_asking(self):
        chain = Chain(*parts())
        first = answers(chain, ROW)
        answers(chain, [1, 0])
        answers(chain, [])
        answers(chain, [9])
        self.assertEqual(answers(chain, ROW), first)


class HandedInWords(unittest.TestCase):
    def test_words_pairs_and_rows_are_not_changed(self):
        for lists, pairs, words, text in word_samples(60, 31):
            before = copy.deepcopy((lists, pairs))
            row = [0, -1, 1]
            word_answers(Words(lists, pairs), text)
            cut_cost(words, text, row)
            self.assertEqual((lists, pairs), before)
            self.assertEqual(row, [0, -1, 1])

    def test_words_stay_when_their_lists_are_changed(self):
        expected = word_answers(Words(*lists_of_words()), TEXT)
        for which in range(2):
            given = lists_of_words()
            words = Words(*given)
            spoil(given[which])
            self.assertEqual(word_answers(words, TEXT), expected)
            given[which].clear()
            self.assertEqual(word_answers(words, TEXT), expected)

    def test_words_are_not_changed_by_asking(self):
        words = Words(*lists_of_words())
        first = word_answers(words, TEXT)
        for text in ("", "b", "c", "aaaa"):
            word_answers(words, text)
        self.assertEqual(word_answers(words, TEXT), first)

    def test_cuts_that_were_told_are_new_lists(self):
        words = Words(*lists_of_words())
        for text in ("", "a", TEXT):
            expected = word_answers(words, text)
            one, other = cut(words, text)[1], cut(words, text)[1]
            self.assertIsNot(one, other)
            one.append(77)
            self.assertEqual(word_answers(words, text), expected)


class HandedInGrammars(unittest.TestCase):
    def test_rules_and_rows_are_not_changed(self):
        for many, rules, grammar, row, goal in grammar_samples(60, 32):
            before = copy.deepcopy((rules, row))
            parse(grammar, row, goal)
            count_trees(grammar, row, goal)
            tree_cost(grammar, (0, (1,), (1,)))
            self.assertEqual((rules, row), before)
            self.assertEqual((grammar.many, grammar.rules), (many, rules))

    def test_a_grammar_stays_when_its_rules_are_changed(self):
        expected = grammar_answers(Grammar(2, some_rules()), ROW)
        given = some_rules()
        grammar = Grammar(2, given)
        for change in (given.reverse, given.pop, given.clear):
            change()
            self.assertEqual(grammar.rules, some_rules())
            self.assertEqual(grammar_answers(grammar, ROW), expected)

    def test_rules_that_were_told_may_be_changed(self):
        grammar = Grammar(2, some_rules())
        expected = grammar_answers(grammar, ROW)
        for change in (grammar.rules.reverse, grammar.rules.pop, grammar.rules.clear):
            change()
            self.assertEqual(grammar_answers(grammar, ROW), expected)

    def test_a_grammar_is_not_changed_by_asking(self):
        grammar = Grammar(2, some_rules())
        first = grammar_answers(grammar, ROW)
        for row in ([], [0], [9], [1, 0]):
            grammar_answers(grammar, row)
        self.assertEqual(grammar_answers(grammar, ROW), first)

    def test_two_grammars_of_the_same_rules(self):
        rules = some_rules()
        one, other = Grammar(2, rules), Grammar(2, rules)
        one.rules.clear()
        self.assertEqual(other.rules, some_rules())
        self.assertEqual(rules, some_rules())


class HandedInChains(unittest.TestCase):
    def test_a_chain_is_not_changed_by_making_a_grammar_of_it(self):
        chain = Chain(*parts())
        expected = answers(chain, ROW)
        grammar = as_grammar(chain)
        spoil(grammar.rules)
        self.assertEqual(answers(chain, ROW), expected)
        self.assertEqual(as_grammar(chain).rules, as_grammar(Chain(*parts())).rules)

    def test_the_grammar_stays_when_the_lists_of_the_chain_are_changed(self):
        expected = grammar_answers(as_grammar(Chain(*parts())), ROW)
        given = parts()
        grammar = as_grammar(Chain(*given))
        spoil(given)
        self.assertEqual(grammar_answers(grammar, ROW), expected)

    def test_each_grammar_has_rules_of_its_own(self):
        chain = Chain(*parts())
        one, other = as_grammar(chain), as_grammar(chain)
        self.assertIsNot(one.rules, other.rules)
        one.rules.clear()
        self.assertEqual(grammar_answers(one, ROW), grammar_answers(other, ROW))


class Told(unittest.TestCase):
    def test_changing_what_was_told_changes_nothing_later(self):
        for row in (ROW, [0], [0, 1]):
            chain = Chain(*parts())
            expected = answers(chain, row)
            for tell in (at_each, cheapest, lambda *asked: few(*asked, 50), lambda *asked: few(*asked, 1)):
                spoil(tell(chain, row))
                self.assertEqual(answers(chain, row), expected)

    def test_empty_lists_that_were_told(self):
        chain = Chain(*parts())
        for tell in (at_each, lambda *asked: few(*asked, 50)):
            tell(chain, []).append(1)
            self.assertEqual(tell(chain, []), [])
        few(chain, ROW, 0).append(1)
        self.assertEqual(few(chain, ROW, 0), [])

    def test_no_list_is_told_twice(self):
        for row in (ROW, [0], [9, 9, 9]):
            chain = Chain(*parts())
            lists = at_each(chain, row) + at_each(chain, row)
            lists += [states for cost, states in few(chain, row, 50) + few(chain, row, 50)]
            self.assertEqual(len(set(id(one) for one in lists)), len(lists))


if __name__ == "__main__":
    unittest.main()
