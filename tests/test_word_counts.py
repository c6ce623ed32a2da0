"""[2.1]: what words are, and where BadWords is raised."""

import copy
import itertools
import unittest

from cheapread.errors import BadChain, BadGrammar, BadWords, ReadError
from cheapread.words import Words, count_cuts, cut, cut_cost

TWO = [("a", 1), ("b", 2)]
FAR = 999999999999999


class Taken(unittest.TestCase):
    def test_no_words_and_no_pairs(self):
        self.assertEqual(cut(Words([], []), ""), (0, []))
        self.assertIsNone(cut(Words([], []), "a"))

    def test_each_number_of_words_up_to_30(self):
        for many in range(31):
            words = Words([("a", 0)] * many, [])
            self.assertEqual(count_cuts(words, "a"), many)
            self.assertEqual(cut_cost(words, "a", [many - 1]), 0 if many else None)

    def test_each_length_of_a_text_from_1_to_12(self):
        for length in range(1, 13):
            text = "abcdefghijkl"[:length]
            self.assertEqual(cut(Words([(text, 7)], []), text), (7, [0]))

    def test_each_sign_of_a_text(self):
        for number in range(ord(" "), ord("~") + 1):
            if number != 37:
                self.assertEqual(cut(Words([(chr(number), 7)], []), chr(number)), (7, [0]))

    def test_words_that_are_alike(self):
        self.assertEqual(count_cuts(Words([("ab", 3), ("ab", 3), ("ab", 4)], []), "ab"), 3)

    def test_a_word_ahead_of_itself(self):
        words = Words(TWO, [(0, 0, 100), (1, 1, 1000)])
        self.assertEqual(cut_cost(words, "aabb", [0, 0, 1, 1]), 6 + 1100)

    def test_the_same_words_the_other_way_round(self):
        words = Words(TWO, [(0, 1, 100), (1, 0, 1000)])
        self.assertEqual(cut_cost(words, "aba", [0, 1, 0]), 4 + 1100)
        self.assertEqual(cut_cost(words, "ab", [0, 1]), 3 + 100)

    def test_every_pair_of_30_words(self):
        pairs = [(first, second, 1) for first, second in itertools.product(range(30), repeat=2)]
        self.assertEqual(cut_cost(Words([("a", 0)] * 30, pairs), "aaa", [29, 0, 29]), 2)

    def test_pairs_with_one_word_alike(self):
        words = Words(TWO + [("b", 2)], [(0, 1, 1), (0, 2, 1), (1, 0, 1), (2, 0, 1)])
        self.assertEqual(cut_cost(words, "aba", [0, 2, 0]), 6)

    def test_costs_of_any_kind(self):
        for cost in (0, -1, FAR, -FAR, 10 ** 18):
            self.assertEqual(cut(Words([("a", cost)], [(0, 0, cost)]), "aa"), (3 * cost, [0, 0]))

    def test_the_arguments_have_their_names(self):
        words = Words(words=TWO, pairs=[(0, 1, 5)])
        self.assertEqual(cut_cost(words=words, text="ab", row=[0, 1]), 8)
        self.assertEqual(cut(words=words, text="ab"), (8, [0, 1]))
        self.assertEqual(count_cuts(words=words, text="ab"), 1)


class Refused(unittest.TestCase):
    def refuse(self, words, pairs):
        before = copy.deepcopy((words, pairs))
        with self.subTest(words=words, pairs=pairs):
            with self.assertRaises(BadWords) as caught:
                Words(words, pairs)
            self.assertIsInstance(caught.exception, ReadError)
            self.assertIsInstance(caught.exception, ValueError)
            self.assertNotIsInstance(caught.exception, (BadChain, BadGrammar))
            self.assertEqual((words, pairs), before)

    def test_too_many_words(self):
        for many in (31, 32, 60):
            self.refuse([("a", 0)] * many, [])

    def test_texts_too_short_or_too_long(self):
        for text in ("", "a" * 13, "abcdefghijklm", " " * 14, "a" * 60):
            self.refuse([(text, 0)], [])
            self.refuse(TWO + [(text, 0)], [])
            self.refuse([(text, 0)] + TWO, [])

    def test_a_cost_that_is_none(self):
        self.refuse([("a", None)], [])
        self.refuse(TWO + [("c", None)], [])
        self.refuse([("c", None)] + TWO, [])

    def test_a_pair_with_a_word_that_is_not_there(self):
        for number in (-FAR, -3, -2, -1, 2, 3, 30, FAR):
            self.refuse(TWO, [(number, 0, 1)])
            self.refuse(TWO, [(1, number, 1)])
            self.refuse(TWO, [(number, number, 1)])
            self.refuse(TWO, [(0, 1, 1), (1, number, 1)])
            self.refuse(TWO, [(number, 1, 1), (0, 1, 1)])

    def test_a_pair_without_any_words(self):
        for number in (-1, 0, 1):
            self.refuse([], [(number, number, 1)])

    def test_a_pair_whose_cost_is_none(self):
        self.refuse(TWO, [(0, 1, None)])
        self.refuse(TWO, [(0, 1, 1), (1, 0, None)])
        self.refuse(TWO, [(1, 0, None), (0, 1, 1)])

    def test_the_same_two_words_twice(self):
        self.refuse(TWO, [(0, 1, 1), (0, 1, 1)])
        self.refuse(TWO, [(0, 1, 1), (0, 1, 2)])
        self.refuse(TWO, [(0, 0, 1), (0, 1, 2), (1, 0, 3), (0, 0, 4)])


if __name__ == "__main__":
    unittest.main()
