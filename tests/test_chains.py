"""[1.2] and [1.3]: readings, what they cost, their order, and how many there are."""

import itertools
import unittest

from cheapread.chains import Chain, at_each, cheapest, cost_of, count, few
from everything import all_readings, even, plain_at_each, plain_cost, samples

# Two states, three signs: each part has a cost of its own, so that none can stand for another.
PARTS = ([1, 20], [[300, 4000], [50000, None]], [[6, 70, None], [800, 9, 0]], [-10000000, 0])


def whole(value):
    return type(value) is int


class Costs(unittest.TestCase):
    def test_by_hand(self):
        chain = Chain(*PARTS)
        self.assertEqual(cost_of(chain, [0], [0]), 1 + 6 - 10000000)
        self.assertEqual(cost_of(chain, [1], [1]), 20 + 9 + 0)
        self.assertEqual(cost_of(chain, [0, 2], [0, 1]), 1 + 6 + 4000 + 0 + 0)
        self.assertEqual(cost_of(chain, [2, 1, 0], [1, 0, 0]), 20 + 0 + 50000 + 70 + 300 + 6 - 10000000)

    def test_what_can_not_be(self):
        chain = Chain(*PARTS)
        self.assertIsNone(cost_of(chain, [2], [0]))
        self.assertIsNone(cost_of(chain, [0, 0], [1, 1]))
        self.assertIsNone(cost_of(Chain([None, 0], *even(2, 1)[1:]), [0], [0]))
        self.assertIsNone(cost_of(Chain(*even(2, 1)[:3], [0, None]), [0], [1]))

    def test_a_start_or_end_elsewhere_does_not_matter(self):
        chain = Chain([0, None], [[0, 0], [0, 0]], [[0], [0]], [None, 0])
        self.assertEqual(cost_of(chain, [0, 0, 0], [0, 1, 1]), 0)
        self.assertEqual(cost_of(chain, [0, 0, 0], [0, 0, 1]), 0)
        self.assertIsNone(cost_of(chain, [0, 0, 0], [0, 1, 0]))

    def test_the_empty_row_has_no_reading(self):
        chain = Chain(*even(2, 2))
        self.assertIsNone(cost_of(chain, [], []))
        self.assertIsNone(cost_of(chain, [], [0]))

    def test_lists_longer_or_shorter_than_the_row(self):
        chain = Chain(*even(2, 2))
        for length in range(6):
            expected = 0 if length == 3 else None
            self.assertEqual(cost_of(chain, [0, 1, 0], [1] * length), expected)

    def test_states_that_are_not_there(self):
        chain = Chain(*even(2, 2))
        for state in (-999999999999999, -3, -2, -1, 2, 3, 8, 999999999999999):
            for place in range(3):
                states = [0, 1, 0]
                states[place] = state
                self.assertIsNone(cost_of(chain, [0, 1, 0], states), states)

    def test_signs_that_are_not_there(self):
        chain = Chain(*even(2, 2))
        for sign in (-999999999999999, -3, -2, -1, 2, 3, 8, 999999999999999):
            for place in range(3):
                row = [0, 1, 0]
                row[place] = sign
                self.assertIsNone(cost_of(chain, row, [0, 1, 0]), row)

    def test_against_all_lists(self):
        for parts, chain, row in samples(150, 1):
            row = row[:3]
            size = chain.size()
            for length in range(len(row) + 2):
                for states in itertools.product(range(-1, size + 1), repeat=length):
                    there = -1 not in states and size not in states
                    expected = plain_cost(parts, row, states) if there else None
                    self.assertEqual(cost_of(chain, row, list(states)), expected, (parts, row, states))

    def test_kinds(self):
        self.assertTrue(whole(cost_of(Chain(*even(1, 1)), [0], [0])))


class Order(unittest.TestCase):
    def test_like_costs_by_the_first_place_that_differs(self):
        chain = Chain(*even(2, 1))
        expected = [(0, list(states)) for states in itertools.product(range(2), repeat=3)]
        self.assertEqual(few(chain, [0, 0, 0], 50), expected)

    def test_costs_ahead_of_states(self):
        chain = Chain([2, 1, 0], [[0] * 3] * 3, [[0]] * 3, [0, 0, 0])
        self.assertEqual(few(chain, [0], 50), [(0, [2]), (1, [1]), (2, [0])])

    def test_costs_below_zero_are_less(self):
        chain = Chain([0, -5, -7], [[0] * 3] * 3, [[0]] * 3, [0, 0, 0])
        self.assertEqual(few(chain, [0], 50), [(-7, [2]), (-5, [1]), (0, [0])])

    def test_the_cheapest_ending_is_not_always_the_cheapest_beginning(self):
        chain = Chain([0, 5], [[0, None], [None, 0]], [[0], [0]], [9, 0])
        self.assertEqual(cheapest(chain, [0, 0, 0]), (5, [1, 1, 1]))

    def test_like_costs_that_come_about_otherwise(self):
        # 0 is dear to begin in and cheap to end in, 1 the other way: all cost 3 together.
        chain = Chain([3, 0], [[0, None], [None, 0]], [[0], [0]], [0, 3])
        self.assertEqual(few(chain, [0, 0], 50), [(3, [0, 0]), (3, [1, 1])])
        self.assertEqual(cheapest(chain, [0, 0]), (3, [0, 0]))

    def test_so_many_or_all(self):
        chain = Chain(*even(2, 1))
        for many in range(12):
            self.assertEqual(len(few(chain, [0, 0, 0], many)), min(many, 8))

    def test_none_and_fewer_than_none(self):
        chain = Chain(*even(2, 1))
        self.assertEqual(few(chain, [0, 0, 0], 0), [])
        self.assertEqual(few(chain, [0, 0, 0], -1), [])
        self.assertEqual(few(chain, [0], -1), [])

    def test_more_than_fifty_are_not_refused(self):
        chain = Chain(*even(2, 1))
        self.assertEqual(len(few(chain, [0] * 6, 60)), 60)
        self.assertEqual(len(few(chain, [0] * 6, 70)), 64)


class Nothing(unittest.TestCase):
    def test_the_empty_row(self):
        for parts in (even(1, 1), even(8, 8), even(2, 2, None), PARTS):
            chain = Chain(*parts)
            self.assertEqual(few(chain, [], 50), [])
            self.assertEqual(few(chain, [], 0), [])
            self.assertIsNone(cheapest(chain, []))
            self.assertEqual(count(chain, []), 0)
            self.assertEqual(at_each(chain, []), [])

    def test_rows_without_a_reading(self):
        for parts in (even(2, 2, None), ([None, None],) + even(2, 2)[1:], even(2, 2)[:3] + ([None, None],)):
            self.unread(Chain(*parts), [0, 1, 0])
        self.unread(Chain([0, 0], [[None] * 2] * 2, [[0], [0]], [0, 0]), [0, 0])

    def test_signs_that_are_not_there(self):
        chain = Chain(*even(3, 2))
        for sign in (-999999999999999, -2, -1, 2, 3, 999999999999999):
            self.unread(chain, [sign])
            for place in range(4):
                row = [0, 1, 0, 1]
                row[place] = sign
                self.unread(chain, row)

    def unread(self, chain, row):
        self.assertEqual(few(chain, row, 50), [])
        self.assertIsNone(cheapest(chain, row))
        self.assertEqual(count(chain, row), 0)
        self.assertEqual(at_each(chain, row), [[None] * chain.size() for sign in row])


class AgainstAll(unittest.TestCase):
    def test_few(self):
        for parts, chain, row in samples(400, 2):
            expected = all_readings(parts, row)
            for many in (0, 1, 2, 3, 7, 49, 50):
                self.assertEqual(few(chain, row, many), expected[:many], (parts, row, many))

    def test_each_many(self):
        for parts, chain, row in samples(40, 3):
            expected = all_readings(parts, row)
            for many in range(51):
                self.assertEqual(few(chain, row, many), expected[:many], (parts, row, many))

    def test_cheapest(self):
        for parts, chain, row in samples(400, 4):
            expected = all_readings(parts, row)
            self.assertEqual(cheapest(chain, row), expected[0] if expected else None, (parts, row))

    def test_count(self):
        for parts, chain, row in samples(400, 5):
            self.assertEqual(count(chain, row), len(all_readings(parts, row)), (parts, row))

    def test_at_each(self):
        for parts, chain, row in samples(400, 6):
            expected = plain_at_each(all_readings(parts, row), row, chain.size())
            self.assertEqual(at_each(chain, row), expected, (parts, row))

    def test_the_samples_hold_what_they_should(self):
        found = {"none": 0, "one": 0, "over 50": 0, "like costs": 0, "below 0": 0, "empty row": 0}
        for parts, chain, row in samples(400, 2):
            costs = [cost for cost, states in all_readings(parts, row)]
            found["none"] += bool(row) and not costs
            found["one"] += len(costs) == 1
            found["over 50"] += len(costs) > 50
            found["like costs"] += 1 < len(set(costs)) < len(costs)
            found["below 0"] += bool(costs) and costs[0] < 0
            found["empty row"] += not row
        for what, often in found.items():
            self.assertGreater(often, 10, what)


class Kinds(unittest.TestCase):
    def test_of_few_and_cheapest(self):
        chain = Chain(*PARTS)
        found = few(chain, [0, 1], 50)
        self.assertIs(type(found), list)
        for pair in found + [cheapest(chain, [0, 1])]:
            self.assertIs(type(pair), tuple)
            self.assertEqual(len(pair), 2)
            self.assertTrue(whole(pair[0]))
            self.assertIs(type(pair[1]), list)
            self.assertTrue(all(whole(state) for state in pair[1]))

    def test_of_count(self):
        for row in ([], [0], [0, 1], [5]):
            self.assertTrue(whole(count(Chain(*PARTS), row)))

    def test_of_at_each(self):
        found = at_each(Chain(*PARTS), [2, 1, 0])
        self.assertIs(type(found), list)
        for line in found:
            self.assertIs(type(line), list)
            self.assertTrue(all(cost is None or whole(cost) for cost in line))


if __name__ == "__main__":
    unittest.main()
