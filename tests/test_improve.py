"""The call improve: its changes in their order, where it stops, and what it refuses."""

import unittest
from unittest import mock

from helper import GREATEST, add, last, page
from pageslates import composing

# Scores 10 9 5, groups 0 0 1, creators 1 1 2, ages 5 5 1.
THREE = page([4, 2], add(10, 0, 1, 5), add(9, 0, 1, 5), add(5, 1, 2, 1))


def improve(slate, *calls):
    return last([*(calls or THREE), ("improve", slate)])


class Changes(unittest.TestCase):
    def test_none(self):
        self.assertEqual(improve([0, 1]), [0, 58, 0, 1])
        self.assertEqual(improve([0], *page([3], add(7), add(6))), [0, 21, 0])

    def test_exchange(self):
        self.assertEqual(improve([1, 0]), [1, 58, 0, 1])

    def test_replacement(self):
        self.assertEqual(improve([0, 2]), [1, 58, 0, 1])

    def test_replacement_at_one_position(self):
        self.assertEqual(improve([0], *page([3], add(5), add(9), add(7))), [1, 27, 1])
        self.assertEqual(improve([0], *page([3], add(5), add(7), add(9))), [2, 27, 2])

    def test_replacements_by_position_then_by_candidate(self):
        # 0 at the first position comes ahead of 0 at the second one, which alone would end at once.
        self.assertEqual(improve([1, 2]), [2, 58, 0, 1])
        steps = page([4, 2], add(5), add(6), add(7), add(8))
        # [0, 1] -> [1, 0] -> [2, 0] -> [3, 0] -> [3, 1] -> [3, 2]
        self.assertEqual(improve([0, 1], *steps), [5, 46, 3, 2])

    def test_exchanges_ahead_of_replacements(self):
        # [2, 1] -> [1, 2] -> [0, 2] -> [0, 1]; a replacement first would be [0, 1] at once.
        self.assertEqual(improve([2, 1]), [3, 58, 0, 1])

    def test_exchanges_by_first_then_by_second_position(self):
        # [0, 1, 2] -> [1, 0, 2] -> [2, 0, 1] -> [2, 1, 0]; another order would take one or two changes.
        self.assertEqual(improve([0, 1, 2], *page([3, 2, 1], add(1), add(2), add(3))), [3, 14, 2, 1, 0])

    def test_both_in_turn(self):
        calls = [*page([4, 2, 1], add(1), add(5), add(6), add(10)), ("pin", 0, 0), ("forbid", 1, 3)]
        # [0, 2, 1] -> [0, 2, 3], where 3 stands in for 1, -> [0, 3, 2], an exchange again.
        self.assertEqual(improve([0, 2, 1], *calls), [2, 30, 0, 3, 2])
        self.assertEqual(improve([0, 1, 2], *calls), [3, 30, 0, 3, 2])

    def test_equal_value_is_no_improvement(self):
        self.assertEqual(improve([2, 1], *page([4, 2], add(5), add(5), add(5))), [0, 30, 2, 1])
        self.assertEqual(improve([1, 0], *page([3, 3], add(5), add(6))), [0, 33, 1, 0])

    def test_coverage_counts(self):
        calls = [*page([2, 1], add(5, topics=[0]), add(4, topics=[0]), add(3, topics=[1])), ("set_diversity", 1)]
        self.assertEqual(improve([0, 1], *calls), [0, 15, 0, 1])
        self.assertEqual(improve([0, 1], *calls, ("set_diversity", 2)), [1, 17, 0, 2])

    def test_changes_that_are_not_feasible_are_left_out(self):
        constraints = (
            (("pin", 1, 2), [0, 2], [0, 50, 0, 2]),
            (("set_quota", 0, 0, 1), [0, 2], [0, 50, 0, 2]),
            (("set_quota", 1, 1, 5), [1, 2], [1, 50, 0, 2]),
            (("set_creators", 1, 1), [1, 2], [1, 50, 0, 2]),
            (("set_creators", 5, 2), [2, 1], [2, 50, 0, 2]),
            (("forbid", 0, 1), [1, 2], [1, 50, 0, 2]),
            (("set_freshness", 1, 1), [1, 2], [1, 50, 0, 2]),
        )
        for constraint, slate, expected in constraints:
            with self.subTest(constraint=constraint):
                self.assertEqual(improve(slate, *THREE, constraint), expected)

    def test_result_need_not_be_best(self):
        calls = [*page([1, 1], add(3), add(3), add(4), add(4)), ("forbid", 0, 2), ("forbid", 0, 3), ("forbid", 1, 2),
                 ("forbid", 1, 3)]
        self.assertEqual(improve([0, 1], *calls), [0, 6, 0, 1])
        self.assertEqual(last([*calls, ("best", 1)]), [1, 8, 2, 3])

    def test_nine_candidates_and_five_positions(self):
        calls = page([5, 4, 3, 2, 1], *[add(score) for score in range(9)])
        self.assertEqual(improve([0, 1, 2, 3, 4], *calls)[1:], [40 + 28 + 18 + 10 + 4, 8, 7, 6, 5, 4])


class MostChanges(unittest.TestCase):
    CALLS = page([4, 2], add(5), add(6), add(7), add(8))

    def test_a_thousand(self):
        self.assertEqual(composing.MOST_CHANGES, 1000)

    def test_it_stops_there(self):
        # A page that takes a thousand changes isn't at hand, so fewer are allowed here.
        slates = ([0, 1], [1, 0], [2, 0], [3, 0], [3, 1], [3, 2], [3, 2])
        for most, slate in enumerate(slates):
            with mock.patch.object(composing, "MOST_CHANGES", most):
                told = improve([0, 1], *self.CALLS)
                self.assertEqual((told[0], told[2:]), (min(most, 5), slate))


class Refused(unittest.TestCase):
    def test_no_slates(self):
        for listed in ([], [0], [0, 1, 2], [0, 0], [0, 3], [3, 0], [0, GREATEST], [0] * 12, list(range(12))):
            with self.subTest(listed=listed):
                self.assertEqual(improve(listed), [-22])

    def test_no_candidates(self):
        for listed in ([], [0], [0, 1]):
            self.assertEqual(improve(listed, ("create", [4, 2])), [-22])

    def test_not_feasible(self):
        constraints = (
            ("pin", 0, 2), ("set_quota", 0, 0, 1), ("set_quota", 1, 1, 5), ("set_creators", 1, 1),
            ("set_creators", 5, 2), ("forbid", 0, 1), ("set_freshness", 1, 1),
        )
        for constraint in constraints:
            with self.subTest(constraint=constraint):
                self.assertEqual(improve([0, 1], *THREE, constraint), [-22])
                self.assertEqual(improve([1, 0], *THREE, constraint), [-22])


if __name__ == "__main__":
    unittest.main()
