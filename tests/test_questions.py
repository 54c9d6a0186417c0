"""The calls value and gain: ordinary slates and beginnings, and what is neither."""

import unittest

from helper import GREATEST, add, last, page

PAGE = [
    *page([40, 20, 10], add(1, 0, 0, 0, [0, 1]), add(10, 0, 0, 0, [1, 2]), add(100, 0, 0, 0, []),
          add(10000, 0, 0, 0, [11]), add(0, 0, 0, 0, list(range(12)))),
    ("set_diversity", 7),
]

NO_SLATES = (
    [], [0], [0, 1], [0, 1, 2, 3], [0, 1, 2, 3, 4], [0, 0, 1], [0, 1, 0], [1, 0, 0], [2, 2, 2],
    [0, 1, 5], [5, 0, 1], [0, 1, GREATEST], [0] * 12, [0, 1, 2, 3, 4, 5, 6, 7, 8, 9, 10, 11], [5] * 12,
)


class Value(unittest.TestCase):
    def test_slates(self):
        expected = {
            (0, 1, 2): (40 + 200 + 1000, 3),
            (2, 1, 0): (4000 + 200 + 10, 3),
            (3, 2, 1): (400000 + 2000 + 100, 3),
            (4, 0, 2): (0 + 20 + 1000, 12),
            (2, 3, 0): (4000 + 200000 + 10, 3),
        }
        for slate, (relevance, coverage) in expected.items():
            with self.subTest(slate=slate):
                self.assertEqual(last([*PAGE, ("value", list(slate))]),
                                 [relevance + 7 * coverage, relevance, coverage])

    def test_diversity_weight(self):
        for weight in (0, 1, 100000):
            calls = [*PAGE, ("set_diversity", weight), ("value", [0, 1, 3])]
            self.assertEqual(last(calls), [100240 + 4 * weight, 100240, 4])

    def test_greatest_value(self):
        full = [add(10000, 0, 0, 0, list(range(12)))] * 5
        calls = [*page([1000] * 5, *full), ("set_diversity", 100000), ("value", [4, 3, 2, 1, 0])]
        self.assertEqual(last(calls), [51200000, 50000000, 12])

    def test_slate_need_not_be_feasible(self):
        constrained = [("set_quota", 0, 0, 0), ("set_creators", 1, 5), ("forbid", 0, 1), ("pin", 0, 3)]
        self.assertEqual(last([*PAGE, *constrained, ("value", [0, 1, 2])]), [1240 + 21, 1240, 3])

    def test_no_slates(self):
        for listed in NO_SLATES:
            for call in ("value", "violation"):
                with self.subTest(call=call, listed=listed):
                    self.assertEqual(last([*PAGE, (call, listed)]), [-22])

    def test_one_position(self):
        self.assertEqual(last([*page([3], add(5)), ("value", [0])]), [15, 15, 0])
        self.assertEqual(last([*page([3], add(5)), ("value", [1])]), [-22])
        self.assertEqual(last([*page([3]), ("value", [0])]), [-22])


class Gain(unittest.TestCase):
    def test_gains(self):
        expected = {
            (0, ()): (40 + 14, 2, 1),
            (3, ()): (400000 + 7, 1, 1),
            (1, (0,)): (200 + 7, 1, 1),
            (2, (0, 1)): (1000, 0, 1),
            (4, (3, 1)): (7 * 9, 9, 1),
            (0, (4,)): (20, 0, 1),
        }
        for (candidate, beginning), answer in expected.items():
            with self.subTest(candidate=candidate, beginning=beginning):
                self.assertEqual(last([*PAGE, ("gain", candidate, list(beginning))]), list(answer))

    def test_missing_candidate_ahead_of_all_else(self):
        for candidate in (5, 9, GREATEST):
            for beginning in ([], [0], [0, 0], [5], [0, 1, 2], [candidate], [0] * 12):
                with self.subTest(candidate=candidate, beginning=beginning):
                    self.assertEqual(last([*PAGE, ("gain", candidate, beginning)]), [-2])

    def test_no_beginnings(self):
        refused = (
            [0, 0], [5], [0, 5], [5, 0], [GREATEST], [4], [4, 0], [0, 4], [0, 1, 2], [0, 1, 4], [0, 1, 2, 3],
            [0] * 12, [0, 1, 2, 3, 4, 5, 6, 7, 8, 9, 10, 11],
        )
        for beginning in refused:
            with self.subTest(beginning=beginning):
                self.assertEqual(last([*PAGE, ("gain", 4, beginning)]), [-22])

    def test_one_position(self):
        calls = page([3], add(5, 0, 0, 0, [4]), add(6))
        self.assertEqual(last([*calls, ("gain", 0, [])]), [15, 1, 1])
        self.assertEqual(last([*calls, ("gain", 0, [1])]), [-22])


class Possible(unittest.TestCase):
    CALLS = page([3, 2, 1], add(1, 0, 7, 5), add(2, 0, 7, 5), add(3, 1, 8, 5), add(4, 1, 7, 5))

    def possible(self, constraints, candidate, beginning):
        return last([*self.CALLS, *constraints, ("gain", candidate, beginning)])[2]

    def test_pin_at_the_position(self):
        self.assertEqual(self.possible([("pin", 1, 2)], 1, [0]), 0)
        self.assertEqual(self.possible([("pin", 1, 2)], 2, [0]), 1)

    def test_pin_at_a_position_before(self):
        self.assertEqual(self.possible([("pin", 0, 2)], 1, [0]), 0)
        self.assertEqual(self.possible([("pin", 0, 0)], 1, [0]), 1)

    def test_pin_at_a_later_position(self):
        self.assertEqual(self.possible([("pin", 2, 3)], 1, [0]), 1)

    def test_candidate_that_is_pinned_elsewhere(self):
        # No position violates its pin as yet: the document's words on possible ask for no more.
        self.assertEqual(self.possible([("pin", 1, 2)], 2, []), 1)

    def test_upper_quota(self):
        self.assertEqual(self.possible([("set_quota", 0, 0, 1)], 1, [0]), 0)
        self.assertEqual(self.possible([("set_quota", 0, 0, 2)], 1, [0]), 1)
        self.assertEqual(self.possible([("set_quota", 1, 0, 0)], 2, []), 0)

    def test_upper_quota_broken_before(self):
        self.assertEqual(self.possible([("set_quota", 0, 0, 0)], 2, [0]), 0)

    def test_lower_quota_does_not_matter(self):
        self.assertEqual(self.possible([("set_quota", 1, 2, 2)], 1, [0]), 1)
        self.assertEqual(self.possible([("set_quota", 4, 5, 5)], 2, [0, 1]), 1)

    def test_limit_of_creators(self):
        self.assertEqual(self.possible([("set_creators", 1, 1)], 1, [0]), 0)
        self.assertEqual(self.possible([("set_creators", 2, 1)], 1, [0]), 1)
        self.assertEqual(self.possible([("set_creators", 2, 1)], 3, [0, 1]), 0)

    def test_spacing(self):
        self.assertEqual(self.possible([("set_creators", 5, 2)], 1, [0]), 0)
        self.assertEqual(self.possible([("set_creators", 5, 2)], 1, [0, 2]), 1)
        self.assertEqual(self.possible([("set_creators", 5, 3)], 1, [0, 2]), 0)

    def test_forbidden_pair(self):
        self.assertEqual(self.possible([("forbid", 0, 3)], 0, [3]), 0)
        self.assertEqual(self.possible([("forbid", 0, 3)], 2, [0, 3]), 0)
        self.assertEqual(self.possible([("forbid", 0, 3)], 2, [3]), 1)

    def test_freshness_does_not_matter(self):
        self.assertEqual(self.possible([("set_freshness", 4, 3)], 1, [0]), 1)
        self.assertEqual(self.possible([("set_freshness", 4, 3)], 2, [0, 1]), 1)


if __name__ == "__main__":
    unittest.main()
