"""[0.1]: nothing that is handed in is changed or kept; lists that are told are new ones."""

import copy
import unittest

from cheapread.chains import Chain, at_each, cheapest, cost_of, count, few
from everything import samples

ROW = [0, 1, 1, 0]


def parts():
    return [1, 2, 0], [[1, 0, 2], [0, None, 1], [3, 1, 0]], [[0, 1], [1, None], [2, 0]], [0, 5, 1]


def answers(chain, row):
    return copy.deepcopy([
        chain.size(), cost_of(chain, row, [0] * len(row)), few(chain, row, 50), few(chain, row, 3),
        cheapest(chain, row), count(chain, row), at_each(chain, row),
    ])


def spoil(told):
    """Every list within what was told is changed."""
    if isinstance(told, (list, tuple)):
        for part in told:
            spoil(part)
    if isinstance(told, list):
        told.append(77)
        told[0] = 88


class HandedIn(unittest.TestCase):
    def test_the_lists_of_a_chain_are_not_changed(self):
        given = parts()
        answers(Chain(*given), ROW)
        self.assertEqual(given, parts())

    def test_rows_and_states_are_not_changed(self):
        for lists, chain, row in samples(50, 8):
            before = copy.deepcopy((lists, row))
            states = [0] * len(row)
            answers(chain, row)
            cost_of(chain, row, states)
            self.assertEqual((lists, row), before)
            self.assertEqual(states, [0] * len(row))

    def test_a_chain_stays_when_its_lists_are_changed(self):
        expected = answers(Chain(*parts()), ROW)
        for which in range(4):
            given = parts()
            chain = Chain(*given)
            spoil(given[which])
            self.assertEqual(answers(chain, ROW), expected)
            given[which].clear()
            self.assertEqual(answers(chain, ROW), expected)

    def test_rows_that_are_one_and_the_same_list(self):
        line = [0, 1]
        chain = Chain(line, [line, line], [line, line], line)
        expected = answers(Chain([0, 1], [[0, 1], [0, 1]], [[0, 1], [0, 1]], [0, 1]), ROW)
        line[0] = None
        self.assertEqual(answers(chain, ROW), expected)

    def test_one_chain_is_not_changed_by_asking(self):
        chain = Chain(*parts())
        first = answers(chain, ROW)
        answers(chain, [1, 0])
        answers(chain, [])
        answers(chain, [9])
        self.assertEqual(answers(chain, ROW), first)


class Told(unittest.TestCase):
    def test_changing_what_was_told_changes_nothing_later(self):
        for row in (ROW, [0], [0, 1]):
            chain = Chain(*parts())
            expected = answers(chain, row)
            for tell in (at_each, cheapest, lambda *asked: few(*asked, 50), lambda *asked: few(*asked, 1)):
                spoil(tell(chain, row))
                self.assertEqual(answers(chain, row), expected)

    def test_empty_lists_that_were_told(self):
        chain = Chain(*parts())
        for tell in (at_each, lambda *asked: few(*asked, 50)):
            tell(chain, []).append(1)
            self.assertEqual(tell(chain, []), [])
        few(chain, ROW, 0).append(1)
        self.assertEqual(few(chain, ROW, 0), [])

    def test_no_list_is_told_twice(self):
        for row in (ROW, [0], [9, 9, 9]):
            chain = Chain(*parts())
            lists = at_each(chain, row) + at_each(chain, row)
            lists += [states for cost, states in few(chain, row, 50) + few(chain, row, 50)]
            self.assertEqual(len(set(id(one) for one in lists)), len(lists))


if __name__ == "__main__":
    unittest.main()
