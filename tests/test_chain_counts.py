"""[1.1]: what a chain is, and where BadChain is raised."""

import copy
import unittest

from cheapread.chains import Chain, at_each, cheapest, cost_of, count, few
from cheapread.errors import BadChain, ReadError
from everything import even

STARTS, STEPS, SIGNS, ENDS = range(4)


class Taken(unittest.TestCase):
    def test_each_size_from_one_to_eight(self):
        for size in range(1, 9):
            for width in range(1, 9):
                chain = Chain(*even(size, width))
                self.assertIs(type(chain.size()), int)
                self.assertEqual(chain.size(), size)
                self.assertEqual(count(chain, [width - 1]), size)
                self.assertEqual(count(chain, [width]), 0)

    def test_the_arguments_have_their_names(self):
        chain = Chain(starts=[1, 2], steps=[[3, 4], [5, 6]], signs=[[7], [8]], ends=[9, 10])
        self.assertEqual(cost_of(chain=chain, row=[0, 0], states=[0, 1]), 1 + 7 + 4 + 8 + 10)
        self.assertEqual(few(chain=chain, row=[0], many=1), [(17, [0])])
        self.assertEqual(cheapest(chain=chain, row=[0]), (17, [0]))
        self.assertEqual(count(chain=chain, row=[0]), 2)
        self.assertEqual(at_each(chain=chain, row=[0]), [[17, 20]])

    def test_costs_of_any_kind_are_taken(self):
        for cost in (None, 0, -1, 999999999999999, -999999999999999, 10 ** 18):
            self.assertEqual(Chain(*even(2, 2, cost)).size(), 2)


class Refused(unittest.TestCase):
    def refuse(self, parts, why):
        for error in (BadChain, ReadError, ValueError):
            with self.subTest(why=why, error=error.__name__):
                with self.assertRaises(error):
                    Chain(*copy.deepcopy(parts))

    def test_none_at_all(self):
        self.refuse(([], [], [], []), "no state")

    def test_no_sign(self):
        for size in range(1, 9):
            self.refuse(even(size, 0), f"no sign, {size} states")

    def test_too_many_states(self):
        for size in (9, 10, 20):
            self.refuse(even(size, 2), f"{size} states")

    def test_too_many_signs(self):
        for size in (1, 2, 8):
            for width in (9, 10, 20):
                self.refuse(even(size, width), f"{size} states, {width} signs")

    def test_each_list_of_another_length(self):
        for size in (1, 2, 3, 8):
            for which in range(4):
                for length in (0, size - 1, size + 1, 9):
                    parts = [list(part) for part in even(size, 2)]
                    parts[which] = (parts[which] * 9)[:length]
                    self.refuse(parts, f"list {which} has {length} for {size} states")

    def test_two_lists_that_agree_with_each_other_alone(self):
        for one, other in ((STARTS, ENDS), (STEPS, SIGNS), (STARTS, STEPS), (STARTS, SIGNS), (SIGNS, ENDS)):
            parts = [list(part) for part in even(3, 2)]
            parts[one] = parts[one][:2]
            parts[other] = parts[other][:2]
            self.refuse(parts, f"only lists {one} and {other} are shorter")

    def test_each_row_of_steps_of_another_length(self):
        for size in (1, 2, 3, 8):
            for state in range(size):
                for length in (0, size - 1, size + 1, 9):
                    parts = even(size, 2)
                    parts[STEPS][state] = [0] * length
                    self.refuse(parts, f"steps of {state} have {length} for {size} states")

    def test_all_rows_of_steps_of_another_length(self):
        for length in (0, 2, 4):
            parts = even(3, 3)
            for state in range(3):
                parts[STEPS][state] = [0] * length
            self.refuse(parts, f"steps have {length} for 3 states")

    def test_each_row_of_signs_of_another_length(self):
        for size in (2, 3, 8):
            for state in range(size):
                for width in (1, 3, 8):
                    for length in (0, width - 1, width + 1, 9):
                        parts = even(size, width)
                        parts[SIGNS][state] = [0] * length
                        self.refuse(parts, f"signs of {state} have {length} for {width}")

    def test_a_refusal_changes_nothing(self):
        parts = even(3, 2)
        parts[STEPS][1] = [0]
        before = copy.deepcopy(parts)
        with self.assertRaises(BadChain):
            Chain(*parts)
        self.assertEqual(parts, before)


if __name__ == "__main__":
    unittest.main()
