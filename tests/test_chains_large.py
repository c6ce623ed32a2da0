"""Rows of 30 signs with 8 states, where going through all would not end."""

import itertools
import random
import unittest

from cheapread.chains import Chain, at_each, cheapest, cost_of, count, few
from everything import even, parts_of

SIZE = 8
LENGTH = 30


def eights(number, length):
    """The number's figures to the base 8, the first ones 0."""
    return [number // 8 ** (length - 1 - place) % 8 for place in range(length)]


class Large(unittest.TestCase):
    def test_all_cost_nothing(self):
        chain = Chain(*even(SIZE, SIZE))
        row = [place % SIZE for place in range(LENGTH)]
        self.assertEqual(count(chain, row), 8 ** LENGTH)
        self.assertEqual(few(chain, row, 50), [(0, eights(number, LENGTH)) for number in range(50)])
        self.assertEqual(cheapest(chain, row), (0, [0] * LENGTH))
        self.assertEqual(at_each(chain, row), [[0] * SIZE for place in range(LENGTH)])

    def test_each_state_costs_its_number(self):
        starts, steps, signs, ends = even(SIZE, 1)
        chain = Chain(starts, steps, [[state] for state in range(SIZE)], ends)
        expected = [(0, [0] * LENGTH)]
        for one, other in itertools.product(range(LENGTH), repeat=2):
            states = [0] * LENGTH
            states[one] += 1
            if (sum(states), states) not in expected:
                expected.append((sum(states), list(states)))
            states[other] += 1
            if (sum(states), states) not in expected:
                expected.append((sum(states), states))
        self.assertEqual(few(chain, [0] * LENGTH, 50), sorted(expected)[:50])
        self.assertEqual(at_each(chain, [0] * LENGTH), [list(range(SIZE)) for place in range(LENGTH)])

    def test_one_way_alone(self):
        starts, steps, signs, ends = even(SIZE, SIZE, None)
        for state in range(SIZE):
            signs[state] = [-1] * SIZE
            steps[state][(state + 1) % SIZE] = state
        starts[3] = 100
        ends[(3 + LENGTH - 1) % SIZE] = 1000
        chain = Chain(starts, steps, signs, ends)
        way = [(3 + place) % SIZE for place in range(LENGTH)]
        cost = 100 + 1000 - LENGTH + sum(way[:-1])
        row = [7] * LENGTH
        self.assertEqual(few(chain, row, 50), [(cost, way)])
        self.assertEqual(cheapest(chain, row), (cost, way))
        self.assertEqual(count(chain, row), 1)
        table = [[cost if state == there else None for state in range(SIZE)] for there in way]
        self.assertEqual(at_each(chain, row), table)
        self.assertEqual(count(chain, row[1:]), 0)

    def test_never_back(self):
        starts, steps, signs, ends = even(SIZE, 1)
        steps = [[0 if behind >= state else None for behind in range(SIZE)] for state in range(SIZE)]
        chain = Chain(starts, steps, signs, ends)
        # Rows of 30 numbers out of 8 that never fall: 37 places, 7 of them the rises.
        self.assertEqual(count(chain, [0] * LENGTH), 10295472)

    def test_the_largest_costs_add_up_exactly(self):
        for cost in (999999999999999, -999999999999999):
            chain = Chain(*even(SIZE, SIZE, cost))
            together = cost * (2 + LENGTH + LENGTH - 1)
            self.assertEqual(cheapest(chain, [7] * LENGTH), (together, [0] * LENGTH))
            self.assertEqual(at_each(chain, [7] * LENGTH), [[together] * SIZE] * LENGTH)

    def test_the_answers_agree(self):
        luck = random.Random(7)
        for costs in ((-2, -1, 0, 1, 2, None), (0, 1), tuple(range(-999, 1000))):
            parts = parts_of(SIZE, SIZE, lambda: luck.choice(costs))
            chain = Chain(*parts)
            row = [luck.randrange(SIZE) for place in range(LENGTH)]
            found = few(chain, row, 50)
            self.assertEqual(len(found), 50)
            self.assertGreater(count(chain, row), 50)
            self.assertEqual(found, sorted(found))
            self.assertEqual(len(set(tuple(states) for cost, states in found)), 50)
            for cost, states in found:
                self.assertEqual(cost_of(chain, row, states), cost)
            self.assertEqual(cheapest(chain, row), found[0])
            for place, line in enumerate(at_each(chain, row)):
                self.assertEqual(min(cost for cost in line if cost is not None), found[0][0])
                self.assertEqual(line[found[0][1][place]], found[0][0])

    def test_somewhat_longer_rows_are_not_refused(self):
        chain = Chain(*even(SIZE, SIZE))
        self.assertEqual(count(chain, [0] * 40), 8 ** 40)
        self.assertEqual(few(chain, [0] * 40, 3), [(0, eights(number, 40)) for number in range(3)])
        self.assertEqual(len(at_each(chain, [0] * 40)), 40)
        self.assertEqual(cost_of(chain, [0] * 40, [0] * 40), 0)


if __name__ == "__main__":
    unittest.main()
