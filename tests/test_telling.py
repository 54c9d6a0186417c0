"""The calls exposure, cover, candidate_info and status."""

import unittest

from helper import GREATEST, add, last, page, run

GROUPS = page([3, 2, 1], add(1, 0), add(1, 0), add(1, 5), add(1, 3))

TOPICS = page([1, 1], add(topics=[0, 1]), add(topics=[2, 3, 4]), add(topics=[4, 5, 6]), add(topics=[]),
              add(topics=[0, 2, 4]), add(topics=[0, 1, 2, 3]))


class Exposure(unittest.TestCase):
    def exposure(self, slate, *calls):
        return last([*(calls or GROUPS), ("exposure", slate)])

    def test_reduced_fractions(self):
        self.assertEqual(self.exposure([0, 2, 3]), [6, 1, 2, 0, 1, 0, 1, 1, 6, 0, 1, 1, 3])
        self.assertEqual(self.exposure([0, 1, 2]), [6, 5, 6, 0, 1, 0, 1, 0, 1, 0, 1, 1, 6])
        self.assertEqual(self.exposure([0, 2, 1]), [6, 2, 3, 0, 1, 0, 1, 0, 1, 0, 1, 1, 3])
        self.assertEqual(self.exposure([3, 1, 0]), [6, 1, 2, 0, 1, 0, 1, 1, 2, 0, 1, 0, 1])

    def test_all_of_one_group(self):
        for group in range(6):
            expected = [6] + [int(column == 2 * group or column % 2) for column in range(12)]
            calls = page([1000, 999, 1], *[add(0, group)] * 3)
            self.assertEqual(self.exposure([2, 0, 1], *calls), expected)
            self.assertEqual(self.exposure([0], *page([7], add(0, group))), expected)

    def test_five_groups(self):
        calls = page([1000, 900, 600, 400, 100], *[add(0, 5 - number) for number in range(5)])
        self.assertEqual(self.exposure([0, 1, 2, 3, 4], *calls), [6, 0, 1, 1, 30, 2, 15, 1, 5, 3, 10, 1, 3])

    def test_no_common_divisor(self):
        calls = page([997, 991], add(0, 1), add(0, 2))
        self.assertEqual(self.exposure([0, 1], *calls), [6, 0, 1, 997, 1988, 991, 1988, 0, 1, 0, 1, 0, 1])

    def test_slate_need_not_be_feasible(self):
        constraints = [("pin", 0, 3), ("set_quota", 0, 0, 0), ("forbid", 0, 1), ("set_creators", 1, 5)]
        self.assertEqual(self.exposure([0, 1, 2], *GROUPS, *constraints), self.exposure([0, 1, 2]))

    def test_no_slates(self):
        for listed in ([], [0], [0, 1], [0, 1, 2, 3], [0, 0, 1], [0, 1, 1], [0, 1, 4], [4, 1, 0], [0, 1, GREATEST],
                       [0] * 12, list(range(12))):
            with self.subTest(listed=listed):
                self.assertEqual(self.exposure(listed), [-22])
        for listed in ([], [0]):
            self.assertEqual(self.exposure(listed, ("create", [1])), [-22])


class Cover(unittest.TestCase):
    ORDER = [5, 2, 0, 1, 3, 4]
    COVERAGES = [0, 4, 7, 7, 7, 7, 7]

    def test_each_count(self):
        for count in range(7):
            self.assertEqual(last([*TOPICS, ("cover", count)]), [count, self.COVERAGES[count], *self.ORDER[:count]])

    def test_more_than_there_are(self):
        for count in (7, 12, GREATEST):
            self.assertEqual(last([*TOPICS, ("cover", count)]), [6, 7, *self.ORDER])

    def test_ties(self):
        calls = page([1], add(topics=[3]), add(topics=[1]), add(topics=[1]), add(topics=[1, 3]))
        self.assertEqual(last([*calls, ("cover", 4)]), [4, 2, 3, 0, 1, 2])
        alike = page([1], *[add(topics=[7])] * 9)
        self.assertEqual(last([*alike, ("cover", GREATEST)]), [9, 1, *range(9)])
        self.assertEqual(last([*page([1], add(), add()), ("cover", 2)]), [2, 0, 0, 1])

    def test_together_not_alone(self):
        calls = page([1], add(topics=[0, 1, 2]), add(topics=[0, 1]), add(topics=[3]))
        self.assertEqual(last([*calls, ("cover", 2)]), [2, 4, 0, 2])

    def test_no_candidates(self):
        for count in (0, 1, 5, GREATEST):
            self.assertEqual(last([("create", [4, 2]), ("cover", count)]), [0, 0])

    def test_constraints_and_scores_do_not_matter(self):
        constraints = [
            ("pin", 0, 3), ("pin", 1, 4), ("set_quota", 0, 0, 0), ("set_quota", 4, 5, 5), ("set_creators", 1, 5),
            ("set_freshness", 0, 2), ("forbid", 5, 2), ("forbid", 0, 5), ("set_score", 3, 10000), ("set_diversity", 9),
        ]
        self.assertEqual(last([*TOPICS, *constraints, ("cover", 6)]), [6, 7, *self.ORDER])

    def test_more_than_positions(self):
        self.assertEqual(last([*page([1], add(topics=[0]), add(topics=[1, 2])), ("cover", 2)]), [2, 3, 1, 0])


class CandidateInfo(unittest.TestCase):
    CALLS = page([1], add(10000, 5, 1000, 9999, [0, 5, 11]), add(0, 0, 0, 0), add(1, 2, 3, 4, list(range(12))))

    def test_data(self):
        self.assertEqual(last([*self.CALLS, ("candidate_info", 0)]), [10000, 5, 1000, 9999, 3, 0, 5, 11])
        self.assertEqual(last([*self.CALLS, ("candidate_info", 1)]), [0, 0, 0, 0, 0])
        self.assertEqual(last([*self.CALLS, ("candidate_info", 2)]), [1, 2, 3, 4, 12, *range(12)])

    def test_new_score(self):
        self.assertEqual(last([*self.CALLS, ("set_score", 2, 77), ("candidate_info", 2)])[:4], [77, 2, 3, 4])

    def test_answer_is_no_part_of_the_page(self):
        expected = [10000, 5, 1000, 9999, 3, 0, 5, 11]
        self.assertEqual(run([*self.CALLS, *[("candidate_info", 0)] * 3])[-3:], [expected] * 3)

    def test_missing_candidates(self):
        for candidate in (3, 9, GREATEST):
            self.assertEqual(last([*self.CALLS, ("candidate_info", candidate)]), [-2])
        self.assertEqual(last([("create", [1]), ("candidate_info", 0)]), [-2])


class Status(unittest.TestCase):
    def test_new_page(self):
        for positions in range(1, 6):
            self.assertEqual(last([("create", [9] * positions), ("status",)]), [positions, 0, 0, 0, 0])

    def test_each_number(self):
        steps = (
            (add(), [2, 1, 0, 0, 0]), (add(), [2, 2, 0, 0, 0]), (add(), [2, 3, 0, 0, 0]),
            (("forbid", 0, 1), [2, 3, 1, 0, 0]), (("forbid", 2, 1), [2, 3, 2, 0, 0]),
            (("pin", 1, 0), [2, 3, 2, 1, 0]), (("pin", 0, 2), [2, 3, 2, 2, 0]), (("pin", 1, 1), [2, 3, 2, 2, 0]),
            (("set_diversity", 100000), [2, 3, 2, 2, 100000]), (("allow", 1, 0), [2, 3, 1, 2, 100000]),
            (("unpin", 1), [2, 3, 1, 1, 100000]), (("pin", 0, 3), [2, 3, 1, 1, 100000]),
            (("set_quota", 0, 1, 2), [2, 3, 1, 1, 100000]), (("create", [7, 6, 5]), [3, 0, 0, 0, 0]),
            (("create", []), [3, 0, 0, 0, 0]),
        )
        calls = [("create", [4, 2])]
        for call, expected in steps:
            calls += [call, ("status",)]
            self.assertEqual(last(calls), expected)


if __name__ == "__main__":
    unittest.main()
