"""Texts of 60 signs with 30 words, where going through all cuts would not end."""

import random
import time
import unittest

from cheapread.words import Words, count_cuts, cut, cut_cost

LENGTH = 60


def forward_cut(words, pairs, text):
    """The first cut, from the text's beginning on: for each place and last word the first list up to there."""
    added = {(first, second): cost for first, second, cost in pairs}
    heads = [{} for place in range(len(text) + 1)]
    heads[0][None] = (0, [])
    for place in range(len(text)):
        for last, (known, row) in heads[place].items():
            for number, (word, cost) in enumerate(words):
                if text[place:place + len(word)] == word:
                    head = (known + cost + added.get((last, number), 0), row + [number])
                    there = heads[place + len(word)]
                    there[number] = min(head, there.get(number, head))
    return min(heads[-1].values(), default=None)


def every_pair(many, pick):
    return [(first, second, pick()) for first in range(many) for second in range(many)]


class Large(unittest.TestCase):
    def test_words_all_alike(self):
        words = Words([("a", 1)] * 30, every_pair(30, lambda: -1))
        started = time.monotonic()
        self.assertEqual(count_cuts(words, "a" * LENGTH), 30 ** LENGTH)
        self.assertEqual(cut(words, "a" * LENGTH), (60 - 59, [0] * LENGTH))
        self.assertLess(time.monotonic() - started, 10)

    def test_long_words_all_alike(self):
        words = Words([("abcdefghijkl", 0)] * 30, [])
        text = "abcdefghijkl" * 5
        self.assertEqual(count_cuts(words, text), 30 ** 5)
        self.assertEqual(cut(words, text), (0, [0] * 5))
        self.assertEqual(count_cuts(words, text[1:]), 0)
        self.assertIsNone(cut(words, text[:-1]))

    def test_words_of_three_lengths(self):
        words = Words([(sign, -2) for sign in ("a", "aa", "aaa") for place in range(10)], [])
        ways = [1, 10, 110]
        while len(ways) <= LENGTH:
            ways.append(10 * (ways[-1] + ways[-2] + ways[-3]))
        for length in range(LENGTH + 1):
            self.assertEqual(count_cuts(words, "a" * length), ways[length])
        self.assertEqual(cut(words, "a" * LENGTH), (-120, [0] * LENGTH))

    def test_no_cut_but_for_the_last_sign(self):
        words = Words([("a" * length, 0) for length in range(1, 13)], every_pair(12, lambda: 1))
        text = "a" * (LENGTH - 1) + "b"
        self.assertEqual(count_cuts(words, text), 0)
        self.assertIsNone(cut(words, text))
        self.assertEqual(cut(words, "a" * LENGTH), (4, [11] * 5))

    def test_one_word_after_the_other(self):
        # Nothing is added but where a word is not followed by the one behind it.
        pairs = [(first, second, 0 if second == (first + 1) % 30 else 1) for first in range(30) for second in range(30)]
        words = Words([("a", 0)] * 30, pairs)
        self.assertEqual(cut(words, "a" * LENGTH), (0, list(range(30)) * 2))

    def test_the_largest_costs_add_up_exactly(self):
        for cost in (999999999999999, -999999999999999):
            words = Words([("a", cost)] * 30, every_pair(30, lambda: cost))
            self.assertEqual(cut(words, "a" * LENGTH), (cost * 119, [0] * LENGTH))
            self.assertEqual(cut_cost(words, "a" * LENGTH, [29] * LENGTH), cost * 119)

    def test_against_cuts_from_the_beginning_on(self):
        luck = random.Random(9)
        for costs in ((0,), (0, 1), (-1, 0, 1), tuple(range(-99, 100))):
            for signs in ("a", "ab"):
                texts = ["".join(luck.choice(signs) for place in range(luck.randint(1, 4))) for number in range(28)]
                lists = [(text, luck.choice(costs)) for text in texts + ["a", "b"]]
                pairs = [pair for pair in every_pair(30, lambda: luck.choice(costs)) if luck.random() < 0.5]
                text = "".join(luck.choice(signs) for place in range(LENGTH))
                words = Words(lists, pairs)
                found = cut(words, text)
                self.assertEqual(found, forward_cut(lists, pairs, text))
                self.assertEqual(cut_cost(words, text, found[1]), found[0])

    def test_somewhat_longer_texts_are_not_refused(self):
        words = Words([("a", 1)] * 30, [(0, 0, 1)])
        self.assertEqual(count_cuts(words, "a" * 80), 30 ** 80)
        self.assertEqual(cut(words, "a" * 80), (80, [0, 1] * 40))
        self.assertEqual(cut_cost(words, "a" * 80, [0] * 80), 159)


if __name__ == "__main__":
    unittest.main()
