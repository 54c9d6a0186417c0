"""The call greedy: what each constraint does to it, where it ends early, and ties."""

import unittest

from helper import add, last, page

# Scores 10 9 5, groups 0 0 1, creators 1 1 2, ages 5 5 1.
THREE = page([4, 2], add(10, 0, 1, 5), add(9, 0, 1, 5), add(5, 1, 2, 1))


def greedy(*calls):
    return last([*calls, ("greedy",)])


class Complete(unittest.TestCase):
    def test_without_constraints(self):
        self.assertEqual(greedy(*THREE), [2, 1, 58, 0, 1])

    def test_one_position(self):
        self.assertEqual(greedy(*page([3], add(5), add(7), add(6))), [1, 1, 21, 1])

    def test_nine_candidates_and_five_positions(self):
        calls = page([5, 4, 3, 2, 1], *[add(score) for score in (3, 8, 1, 9, 2, 7, 4, 6, 5)])
        self.assertEqual(greedy(*calls), [5, 1, 45 + 32 + 21 + 12 + 5, 3, 1, 5, 7, 8])

    def test_as_many_candidates_as_positions(self):
        self.assertEqual(greedy(*page([2, 1], add(1), add(3))), [2, 1, 7, 1, 0])

    def test_topics_count(self):
        calls = page([4, 2], add(10, topics=[0, 1]), add(9, topics=[0]), add(5, topics=[2, 3, 4]))
        self.assertEqual(greedy(*calls, ("set_diversity", 2)), [2, 1, 58 + 4, 0, 1])
        self.assertEqual(greedy(*calls, ("set_diversity", 3)), [2, 1, 50 + 15, 0, 2])
        self.assertEqual(greedy(*calls, ("set_diversity", 100)), [2, 1, 20 + 20 + 500, 2, 0])

    def test_topics_that_are_covered_already_count_no_more(self):
        calls = page([1, 1], add(5, topics=[0, 1, 2]), add(4, topics=[0, 1, 2]), add(3, topics=[3]))
        self.assertEqual(greedy(*calls, ("set_diversity", 2)), [2, 1, 8 + 8, 0, 2])

    def test_greedy_need_not_be_best(self):
        calls = [*page([2, 2], add(10), add(9), add(8)), ("forbid", 0, 1), ("forbid", 0, 2), add(0)]
        self.assertEqual(greedy(*calls), [2, 1, 20, 0, 3])


class Ties(unittest.TestCase):
    def test_smaller_number(self):
        self.assertEqual(greedy(*page([4, 2], add(5), add(5), add(5))), [2, 1, 30, 0, 1])
        self.assertEqual(greedy(*page([4, 2], add(1), add(5), add(5))), [2, 1, 30, 1, 2])
        self.assertEqual(greedy(*page([4, 2], add(), add(), add())), [2, 1, 0, 0, 1])

    def test_relevance_and_coverage_together(self):
        for first, second in ((add(6, topics=[0, 1]), add(10)), (add(10), add(6, topics=[0, 1]))):
            self.assertEqual(greedy(*page([1], first, second), ("set_diversity", 2)), [1, 1, 10, 0])

    def test_among_the_options_alone(self):
        self.assertEqual(greedy(*page([4, 2], add(5), add(5), add(5)), ("pin", 1, 0)), [2, 1, 30, 1, 0])
        self.assertEqual(greedy(*page([4, 2], add(5), add(5), add(5)), ("forbid", 0, 1)), [2, 1, 30, 0, 2])


class Constraints(unittest.TestCase):
    def test_pins(self):
        self.assertEqual(greedy(*THREE, ("pin", 0, 2)), [2, 1, 20 + 20, 2, 0])
        self.assertEqual(greedy(*THREE, ("pin", 1, 0)), [2, 1, 36 + 20, 1, 0])
        self.assertEqual(greedy(*THREE, ("pin", 1, 2)), [2, 1, 40 + 10, 0, 2])
        self.assertEqual(greedy(*THREE, ("pin", 0, 2), ("pin", 1, 1)), [2, 1, 20 + 18, 2, 1])

    def test_upper_quota(self):
        self.assertEqual(greedy(*THREE, ("set_quota", 0, 0, 1)), [2, 1, 40 + 10, 0, 2])
        self.assertEqual(greedy(*THREE, ("set_quota", 0, 0, 2)), [2, 1, 58, 0, 1])

    def test_lower_quota_is_not_looked_at(self):
        self.assertEqual(greedy(*THREE, ("set_quota", 1, 1, 5)), [2, 0, 58, 0, 1])
        self.assertEqual(greedy(*THREE, ("set_quota", 0, 2, 5)), [2, 1, 58, 0, 1])

    def test_limit_of_creators(self):
        self.assertEqual(greedy(*THREE, ("set_creators", 1, 1)), [2, 1, 40 + 10, 0, 2])
        self.assertEqual(greedy(*THREE, ("set_creators", 2, 1)), [2, 1, 58, 0, 1])

    def test_spacing(self):
        self.assertEqual(greedy(*THREE, ("set_creators", 5, 2)), [2, 1, 40 + 10, 0, 2])
        longer = page([4, 2, 1], add(10, 0, 1), add(9, 0, 1), add(5, 0, 2))
        self.assertEqual(greedy(*longer, ("set_creators", 5, 2)), [3, 1, 40 + 10 + 9, 0, 2, 1])
        self.assertEqual(greedy(*longer, ("set_creators", 5, 3)), [2, 0, 40 + 10, 0, 2])

    def test_forbidden_pair(self):
        self.assertEqual(greedy(*THREE, ("forbid", 1, 0)), [2, 1, 40 + 10, 0, 2])
        self.assertEqual(greedy(*THREE, ("forbid", 2, 1)), [2, 1, 58, 0, 1])

    def test_required_fresh_candidates_are_not_looked_at(self):
        self.assertEqual(greedy(*THREE, ("set_freshness", 1, 1)), [2, 0, 58, 0, 1])
        self.assertEqual(greedy(*THREE, ("set_freshness", 5, 2)), [2, 1, 58, 0, 1])


class EndsEarly(unittest.TestCase):
    def test_no_candidates(self):
        for weights in ([7], [4, 2], [5, 4, 3, 2, 1]):
            self.assertEqual(greedy(("create", weights)), [0, 0, 0])

    def test_fewer_candidates_than_positions(self):
        calls = [*page([4, 2, 1], add(1, topics=[3]), add(5, topics=[3, 4])), ("set_diversity", 10)]
        self.assertEqual(greedy(*calls), [2, 0, 20 + 2 + 20, 1, 0])

    def test_no_option_at_the_first_position(self):
        self.assertEqual(greedy(*page([4, 2], add(5), add(6)), ("set_quota", 0, 0, 0)), [0, 0, 0])
        self.assertEqual(greedy(*THREE, ("pin", 0, 2), ("set_quota", 1, 0, 0)), [0, 0, 0])

    def test_no_option_later(self):
        self.assertEqual(greedy(*THREE, ("set_quota", 0, 0, 1), ("set_creators", 5, 2), ("set_quota", 1, 0, 0)),
                         [1, 0, 40, 0])
        self.assertEqual(greedy(*THREE, ("forbid", 0, 1), ("forbid", 0, 2)), [1, 0, 40, 0])

    def test_pinned_candidate_that_does_not_fit(self):
        self.assertEqual(greedy(*THREE, ("pin", 1, 0), ("forbid", 0, 1)), [1, 0, 36, 1])
        self.assertEqual(greedy(*THREE, ("pin", 1, 0), ("set_quota", 0, 0, 1)), [1, 0, 36, 1])

    def test_only_candidate_is_pinned_later(self):
        self.assertEqual(greedy(*page([4, 2], add(5)), ("pin", 1, 0)), [0, 0, 0])
        self.assertEqual(greedy(*page([4, 2], add(5)), ("pin", 0, 0)), [1, 0, 20, 0])


if __name__ == "__main__":
    unittest.main()
