import unittest

from cheapread.costs import least, plus, total


class Costs(unittest.TestCase):
    def test_plus(self):
        self.assertEqual(plus(2, 3), 5)
        self.assertEqual(plus(-2, -3), -5)
        self.assertEqual(plus(0, 0), 0)

    def test_plus_of_what_can_not_be(self):
        self.assertIsNone(plus(None, 3))
        self.assertIsNone(plus(3, None))
        self.assertIsNone(plus(None, 0))
        self.assertIsNone(plus(None, None))

    def test_total(self):
        self.assertEqual(total([]), 0)
        self.assertEqual(total([7]), 7)
        self.assertEqual(total([1, -5, 0]), -4)
        self.assertEqual(total([999999999999999] * 90), 999999999999999 * 90)

    def test_total_of_what_can_not_be(self):
        for costs in ([None], [None, 1], [1, None], [1, None, 2], [None, None]):
            self.assertIsNone(total(costs))

    def test_least(self):
        self.assertEqual(least([3, 1, 2]), 1)
        self.assertEqual(least([0, -1]), -1)
        self.assertEqual(least([None, 5, None, 0]), 0)

    def test_least_of_none(self):
        self.assertIsNone(least([]))
        self.assertIsNone(least([None, None]))

    def test_nothing_handed_in_is_changed(self):
        costs = [3, None, 1]
        total(costs)
        least(costs)
        self.assertEqual(costs, [3, None, 1])


if __name__ == "__main__":
    unittest.main()
