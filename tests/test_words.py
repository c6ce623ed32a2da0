"""[2.2]: cuts, what they cost, their order, and how many there are."""

import itertools
import unittest

from cheapread.words import Words, count_cuts, cut, cut_cost
from everything import all_cuts, plain_cut_cost, word_samples

FAR = 999999999999999

# Each part has a cost of its own, so that none can stand for another.
WORDS = [("a", 1), ("b", 20), ("ab", 300), ("ba", 4000)]
PAIRS = [(0, 1, 50000), (1, 0, 600000), (2, 2, -7000000), (0, 0, 0)]


class Costs(unittest.TestCase):
    def test_by_hand(self):
        words = Words(WORDS, PAIRS)
        self.assertEqual(cut_cost(words, "a", [0]), 1)
        self.assertEqual(cut_cost(words, "ab", [2]), 300)
        self.assertEqual(cut_cost(words, "ab", [0, 1]), 1 + 20 + 50000)
        self.assertEqual(cut_cost(words, "aba", [0, 1, 0]), 1 + 20 + 1 + 50000 + 600000)
        self.assertEqual(cut_cost(words, "aba", [0, 3]), 1 + 4000)
        self.assertEqual(cut_cost(words, "ababab", [2, 2, 2]), 900 - 14000000)

    def test_only_words_right_ahead_of_one_another(self):
        words = Words([("a", 0), ("b", 0), ("c", 0)], [(0, 2, 5), (2, 0, 7)])
        self.assertEqual(cut_cost(words, "abc", [0, 1, 2]), 0)
        self.assertEqual(cut_cost(words, "ac", [0, 2]), 5)
        self.assertEqual(cut_cost(words, "ca", [2, 0]), 7)

    def test_the_empty_text(self):
        for words in (Words([], []), Words(WORDS, PAIRS), Words([("a", -5)], [(0, 0, -5)])):
            self.assertEqual(cut_cost(words, "", []), 0)
            self.assertEqual(cut(words, ""), (0, []))
            self.assertEqual(count_cuts(words, ""), 1)
            for row in ([0], [-1], [0, 0], [30]):
                self.assertIsNone(cut_cost(words, "", row))

    def test_lists_that_are_no_cut_of_the_text(self):
        words = Words(WORDS, PAIRS)
        for row in ([], [0], [1], [3], [0, 0], [1, 0], [0, 1, 0], [2, 2], [2, 0], [0, 2]):
            self.assertIsNone(cut_cost(words, "ab", row), row)

    def test_words_that_are_not_there(self):
        words = Words([("a", 0), ("a", 0)], [])
        for number in (-FAR, -3, -2, -1, 2, 3, 30, FAR):
            for place in range(3):
                row = [0, 1, 0]
                row[place] = number
                self.assertIsNone(cut_cost(words, "aaa", row), row)

    def test_texts_without_a_cut(self):
        words = Words(WORDS, PAIRS)
        for text in ("c", "abc", "cab", "acb", "A", " ", "ab ", "~"):
            self.assertIsNone(cut(words, text))
            self.assertEqual(count_cuts(words, text), 0)
        for text in ("a", "aa", "aaaaa", "ba"):
            self.assertIsNone(cut(Words([("aaa", 0), ("ab", 0)], []), text))
            self.assertEqual(count_cuts(Words([("aaa", 0), ("ab", 0)], []), text), 0)

    def test_a_word_may_not_reach_beyond_the_text(self):
        words = Words([("aa", 0)], [])
        for length in range(9):
            found = (0, [0] * (length // 2)) if length % 2 == 0 else None
            self.assertEqual(cut(words, "a" * length), found)
            self.assertEqual(count_cuts(words, "a" * length), 1 - length % 2)


class Order(unittest.TestCase):
    def test_costs_ahead_of_numbers(self):
        self.assertEqual(cut(Words([("a", 2), ("a", 1), ("a", 0)], []), "aa"), (0, [2, 2]))
        self.assertEqual(cut(Words([("a", 0), ("a", -1)], []), "a"), (-1, [1]))

    def test_like_costs_by_the_numbers(self):
        self.assertEqual(cut(Words([("a", 1), ("a", 1)], []), "aaa"), (3, [0, 0, 0]))
        self.assertEqual(cut(Words([("a", 1), ("aa", 2)], []), "aaa"), (3, [0, 0, 0]))
        self.assertEqual(cut(Words([("aa", 2), ("a", 1)], []), "aaa"), (3, [0, 1]))
        self.assertEqual(cut(Words([("a", 0), ("ab", 0), ("b", 0), ("c", 0), ("bc", 0)], []), "abc"), (0, [0, 2, 3]))

    def test_neither_more_nor_fewer_words_are_ahead_by_themselves(self):
        self.assertEqual(cut(Words([("aaa", 0), ("a", 0)], []), "aaa"), (0, [0]))
        self.assertEqual(cut(Words([("a", 0), ("aaa", 0)], []), "aaa"), (0, [0, 0, 0]))

    def test_the_first_place_that_differs_and_no_later_one(self):
        # [0, 3] and [1, 2] cost the same: the lesser first number counts, not the lesser last one.
        words = Words([("a", 0), ("ab", 0), ("c", 0), ("bc", 0)], [])
        self.assertEqual(cut(words, "abc"), (0, [0, 3]))

    def test_what_is_added_can_turn_the_order(self):
        two = [("a", 0), ("a", 1)]
        self.assertEqual(cut(Words(two, [(0, 0, 5)]), "aa"), (1, [0, 1]))
        self.assertEqual(cut(Words(two, [(0, 0, 5), (0, 1, 5)]), "aa"), (1, [1, 0]))
        self.assertEqual(cut(Words(two, [(1, 1, -9)]), "aaa"), (3 - 18, [1, 1, 1]))

    def test_a_dear_beginning_can_be_the_cheapest_in_the_end(self):
        words = Words([("a", 0), ("aa", 50), ("b", 0)], [(0, 2, 100)])
        self.assertEqual(cut(words, "aab"), (50, [1, 2]))

    def test_like_costs_that_come_about_otherwise(self):
        words = Words([("a", 3), ("a", 0)], [(1, 0, 3), (1, 1, 6)])
        self.assertEqual(all_cuts([("a", 3), ("a", 0)], [(1, 0, 3), (1, 1, 6)], "aa")[0], (3, [0, 1]))
        self.assertEqual(cut(words, "aa"), (3, [0, 1]))


class AgainstAll(unittest.TestCase):
    def test_cut(self):
        for lists, pairs, words, text in word_samples(600, 1):
            expected = all_cuts(lists, pairs, text)
            self.assertEqual(cut(words, text), expected[0] if expected else None, (lists, pairs, text))

    def test_count_cuts(self):
        for lists, pairs, words, text in word_samples(600, 2):
            self.assertEqual(count_cuts(words, text), len(all_cuts(lists, pairs, text)), (lists, pairs, text))

    def test_cut_cost(self):
        for lists, pairs, words, text in word_samples(200, 3):
            many = len(lists)
            for length in range(5):
                for row in itertools.product(range(-1, many + 1), repeat=length):
                    there = -1 not in row and many not in row
                    is_cut = there and "".join(lists[number][0] for number in row) == text
                    expected = plain_cut_cost(lists, pairs, row) if is_cut else None
                    self.assertEqual(cut_cost(words, text, list(row)), expected, (lists, pairs, text, row))

    def test_cut_cost_of_all_cuts(self):
        for lists, pairs, words, text in word_samples(300, 4):
            for cost, row in all_cuts(lists, pairs, text):
                self.assertEqual(cut_cost(words, text, row), cost, (lists, pairs, text, row))
                self.assertIsNone(cut_cost(words, text + "a", row))
                if text:
                    self.assertIsNone(cut_cost(words, text[1:], row))

    def test_the_samples_hold_what_they_should(self):
        names = ("none", "one", "like costs", "first alike", "below 0", "empty text", "words alike", "pairs")
        found = dict.fromkeys(names, 0)
        for lists, pairs, words, text in word_samples(600, 1):
            costs = [cost for cost, row in all_cuts(lists, pairs, text)]
            found["none"] += not costs
            found["one"] += len(costs) == 1
            found["like costs"] += 1 < len(set(costs)) < len(costs)
            found["first alike"] += len(costs) > 1 and costs[0] == costs[1]
            found["below 0"] += bool(costs) and costs[0] < 0
            found["empty text"] += not text
            found["words alike"] += len(set(lists)) < len(lists)
            found["pairs"] += bool(pairs) and len(costs) > 1
        for what, often in found.items():
            self.assertGreater(often, 20, what)


class Kinds(unittest.TestCase):
    def test_of_a_cut(self):
        for text in ("", "a", "abab"):
            found = cut(Words(WORDS, PAIRS), text)
            self.assertIs(type(found), tuple)
            self.assertEqual(len(found), 2)
            self.assertIs(type(found[0]), int)
            self.assertIs(type(found[1]), list)
            self.assertTrue(all(type(number) is int for number in found[1]))

    def test_of_costs_and_counts(self):
        words = Words(WORDS, PAIRS)
        for text, row in (("", []), ("ab", [2]), ("ab", [0, 1])):
            self.assertIs(type(cut_cost(words, text, row)), int)
        for text in ("", "ab", "c"):
            self.assertIs(type(count_cuts(words, text)), int)


if __name__ == "__main__":
    unittest.main()
