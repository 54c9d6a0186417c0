"""The calls that go through all feasible slates: best, count_feasible, cost_of and worth."""

import unittest

from helper import GREATEST, Reading, add, last, page, run, slates_of

# Scores 10 9 5, groups 0 0 1, creators 1 1 2, ages 5 5 1.
THREE = page([4, 2], add(10, 0, 1, 5), add(9, 0, 1, 5), add(5, 1, 2, 1))
ALIKE = page([1, 1], add(5), add(5), add(5))
BARREN = (
    [("create", [4, 2])],
    page([4, 2], add(5)),
    [*THREE, ("set_quota", 3, 1, 1)],
    [*THREE, ("set_quota", 0, 0, 0)],
    [*THREE, ("set_creators", 1, 1), ("forbid", 0, 2), ("forbid", 1, 2)],
    [*THREE, ("set_freshness", 1, 2)],
    [*THREE, ("pin", 0, 0), ("pin", 1, 1), ("forbid", 0, 1)],
)


class Best(unittest.TestCase):
    def test_decreasing_value(self):
        expected = [58, 0, 1, 56, 1, 0, 50, 0, 2, 46, 1, 2, 40, 2, 0]
        for count in range(1, 6):
            self.assertEqual(last([*THREE, ("best", count)]), [count, *expected[:3 * count]])

    def test_same_value_in_lexicographic_order(self):
        self.assertEqual(last([*ALIKE, ("best", 5)]), [5, 10, 0, 1, 10, 0, 2, 10, 1, 0, 10, 1, 2, 10, 2, 0])
        self.assertEqual(last([*ALIKE, ("best", 2)]), [2, 10, 0, 1, 10, 0, 2])
        same = page([2, 1], add(2), add(4), add(5), add(2))
        self.assertEqual(last([*same, ("set_score", 3, 3), ("best", 4)]), [4, 14, 2, 1, 13, 1, 2, 13, 2, 3, 12, 2, 0])

    def test_fewer_than_asked_for(self):
        two = [*THREE, ("forbid", 0, 1), ("forbid", 1, 2)]
        self.assertEqual(last([*two, ("best", 5)]), [2, 50, 0, 2, 40, 2, 0])
        self.assertEqual(last([*two, ("pin", 0, 2), ("best", 5)]), [1, 40, 2, 0])
        self.assertEqual(last([*page([3], add(4)), ("best", 2)]), [1, 12, 0])

    def test_more_than_five(self):
        calls = page([1], *[add(score) for score in range(9)])
        self.assertEqual(last([*calls, ("best", 5)]), [5, 8, 8, 7, 7, 6, 6, 5, 5, 4, 4])

    def test_value_with_coverage(self):
        calls = page([4, 2], add(10, topics=[0, 1]), add(9, topics=[0]), add(5, topics=[2, 3, 4]))
        self.assertEqual(last([*calls, ("set_diversity", 3), ("best", 3)]), [3, 65, 0, 2, 64, 0, 1, 62, 1, 0])

    def test_value_zero(self):
        self.assertEqual(last([*page([4, 2], add(), add()), ("best", 3)]), [2, 0, 0, 1, 0, 1, 0])

    def test_constraints(self):
        for constraint in (("pin", 1, 2), ("set_quota", 0, 0, 1), ("set_quota", 1, 1, 1), ("set_creators", 1, 1),
                           ("set_creators", 2, 2), ("forbid", 0, 1), ("set_freshness", 1, 1)):
            with self.subTest(constraint=constraint):
                self.assertEqual(last([*THREE, constraint, ("best", 2)]), [2, 50, 0, 2, 46, 1, 2])

    def test_counts_outside_their_limits(self):
        for calls in (THREE, *BARREN):
            for count in (0, 6, 7, GREATEST):
                self.assertEqual(last([*calls, ("best", count)]), [-22])

    def test_no_feasible_slate(self):
        for calls in BARREN:
            for count in (1, 5):
                self.assertEqual(last([*calls, ("best", count)]), [-33])


class CountFeasible(unittest.TestCase):
    def test_without_constraints(self):
        for positions, candidates, expected in ((1, 1, 1), (1, 9, 9), (2, 3, 6), (3, 3, 6), (5, 5, 120), (5, 9, 15120)):
            calls = page([1] * positions, *[add()] * candidates)
            self.assertEqual(last([*calls, ("count_feasible",)]), [expected])

    def test_constraints(self):
        counts = (
            (("pin", 1, 2), 2), (("set_quota", 0, 0, 1), 4), (("set_quota", 1, 1, 5), 4), (("set_quota", 0, 2, 5), 2),
            (("set_creators", 1, 1), 4), (("set_creators", 5, 2), 4), (("forbid", 2, 0), 4),
            (("set_freshness", 1, 1), 4), (("set_freshness", 4, 0), 6),
        )
        for constraint, expected in counts:
            with self.subTest(constraint=constraint):
                self.assertEqual(last([*THREE, constraint, ("count_feasible",)]), [expected])

    def test_spacing_depends_on_the_order(self):
        calls = page([3, 2, 1], add(1, 0, 7), add(1, 0, 7), add(1, 0, 8))
        self.assertEqual(last([*calls, ("set_creators", 5, 2), ("count_feasible",)]), [2])
        self.assertEqual(last([*calls, ("set_creators", 5, 3), ("count_feasible",)]), [0])

    def test_each_spacing(self):
        calls = page([1] * 5, *[add(0, 0, creator) for creator in (7, 7, 1, 2, 3)])
        # Of the 10 pairs of positions 4 are nearer than 2, 7 nearer than 3, 9 nearer than 4, and all nearer than 5.
        for spacing, pairs in ((1, 10), (2, 6), (3, 3), (4, 1), (5, 0)):
            self.assertEqual(last([*calls, ("set_creators", 5, spacing), ("count_feasible",)]), [pairs * 2 * 6])

    def test_none(self):
        for calls in BARREN:
            self.assertEqual(last([*calls, ("count_feasible",)]), [0])


# Each takes the two best slates from THREE, so that 50 instead of 58 is left.
COSTLY = {
    0: (("set_quota", 0, 0, 1), ("set_quota", 1, 1, 5)),
    1: (("set_creators", 1, 1), ("set_creators", 5, 2)),
    2: (("set_freshness", 1, 1),),
    3: (("forbid", 0, 1),),
    4: (("pin", 1, 2),),
}


class CostOf(unittest.TestCase):
    def test_each_kind_alone(self):
        for kind, constraints in COSTLY.items():
            for constraint in constraints:
                for relaxed in range(6):
                    with self.subTest(constraint=constraint, relaxed=relaxed):
                        expected = [50, 58, 8] if relaxed in (kind, 5) else [50, 50, 0]
                        self.assertEqual(last([*THREE, constraint, ("cost_of", relaxed)]), expected)

    def test_two_kinds_at_once(self):
        for kind in range(5):
            other = COSTLY[(kind + 1) % 5][0]
            calls = [*THREE, COSTLY[kind][0], other]
            for relaxed in range(5):
                self.assertEqual(last([*calls, ("cost_of", relaxed)]), [50, 50, 0])
            self.assertEqual(last([*calls, ("cost_of", 5)]), [50, 58, 8])

    def test_nothing_to_relax(self):
        for kind in range(6):
            self.assertEqual(last([*THREE, ("cost_of", kind)]), [58, 58, 0])

    def test_quotas_of_all_groups(self):
        calls = [*THREE, ("set_quota", 0, 1, 1), ("set_quota", 1, 1, 1), ("set_quota", 5, 0, 0)]
        self.assertEqual(last([*calls, ("cost_of", 0)]), [50, 58, 8])

    def test_diversity_stays(self):
        calls = page([4, 2], add(10, topics=[0, 1]), add(9, topics=[0]), add(5, topics=[2, 3, 4]))
        forbidden = [*calls, ("set_diversity", 3), ("forbid", 0, 2)]
        self.assertEqual(last([*forbidden, ("cost_of", 3)]), [64, 65, 1])
        self.assertEqual(last([*forbidden, ("cost_of", 5)]), [64, 65, 1])

    def test_refusals(self):
        for calls in (THREE, *BARREN):
            for kind in (6, 7, GREATEST):
                self.assertEqual(last([*calls, ("cost_of", kind)]), [-22])
        for calls in BARREN:
            for kind in range(6):
                self.assertEqual(last([*calls, ("cost_of", kind)]), [-33])

    def test_constraints_are_there_behind_it(self):
        constrained = [*THREE, *[constraints[0] for constraints in COSTLY.values()]]
        for kind in range(6):
            results = run([*constrained, ("best", 5), ("cost_of", kind), ("best", 5), ("status",)])
            self.assertEqual(results[-4], results[-2])
            self.assertEqual(results[-1], [2, 3, 1, 1, 0])


class Worth(unittest.TestCase):
    def test_candidate_in_some(self):
        self.assertEqual(last([*THREE, ("worth", 0)]), [58, 47, 59])
        self.assertEqual(last([*THREE, ("worth", 1)]), [58, 51, 59])
        self.assertEqual(last([*THREE, ("worth", 2)]), [58, 59, 51])

    def test_candidate_in_every_one(self):
        self.assertEqual(last([*THREE, ("pin", 0, 2), ("worth", 2)]), [40, 0, 41])
        self.assertEqual(last([*page([3], add(7)), ("worth", 0)]), [21, 0, 22])

    def test_candidate_in_none(self):
        self.assertEqual(last([*THREE, ("set_quota", 1, 0, 0), ("worth", 2)]), [58, 59, 0])
        self.assertEqual(last([*THREE, ("pin", 0, 2), ("forbid", 1, 2), ("worth", 1)]), [40, 41, 0])

    def test_value_zero_is_not_none(self):
        self.assertEqual(last([*page([3], add(), add()), ("worth", 1)]), [0, 1, 1])
        self.assertEqual(last([*page([3], add()), ("worth", 0)]), [0, 0, 1])

    def test_missing_candidate_ahead_of_no_feasible_slate(self):
        for calls in (THREE, *BARREN):
            for candidate in (3, 9, GREATEST):
                self.assertEqual(last([*calls, ("worth", candidate)]), [-2])
        self.assertEqual(last([("create", [1]), ("worth", 0)]), [-2])

    def test_no_feasible_slate(self):
        for calls in BARREN[1:]:
            self.assertEqual(last([*calls, ("worth", 0)]), [-33])


class LongList(unittest.TestCase):
    """Sixty calls on a page with 9 candidates and 5 positions; each goes through all slates."""

    READING = Reading(2026, 5, 9)

    def test_one_after_another(self):
        reading = self.READING
        ordered = reading.ordered()
        value = ordered[0][0]
        created = reading.calls()
        self.assertGreater(len(ordered), 100)
        expected = {("count_feasible",): [len(ordered)]}
        for count in range(1, 6):
            expected["best", count] = [count, *[number for told, slate in ordered[:count] for number in (told, *slate)]]
        for kind in range(6):
            relaxed = reading.relaxed(kind).ordered()[0][0]
            expected["cost_of", kind] = [value, relaxed, relaxed - value]
        for candidate in range(9):
            having = [told for told, slate in ordered if candidate in slate]
            lacking = [told for told, slate in ordered if candidate not in slate]
            expected["worth", candidate] = [value, max(lacking, default=-1) + 1, max(having, default=-1) + 1]
        questions = list(expected) * 3
        calls = [*created, *questions][:60]
        self.assertEqual(len(calls), 60)
        asked = calls[len(created):]
        self.assertEqual(run(calls)[len(created):], [expected[question] for question in asked])

    def test_changes_in_between(self):
        calls = page([5, 4, 3, 2, 1], *[add(score, score % 3, score % 4, score, [score]) for score in range(9)])
        for score in range(25):
            calls += [("set_score", 8, 10 * score), ("gap", [score] * 6)]
        results = run(calls)
        self.assertEqual(len(calls), 60)
        for score, (_, told) in enumerate(zip(results[10::2], results[11::2])):
            scores = sorted([10 * score, *range(8)])[-5:]
            value = sum(place * each for place, each in enumerate(scores, 1))
            # All groups have the same price: five times it is added, fifteen prices fewer are in the positions.
            bound = 15 * max(10 * score, 7) - 5 * score + 6 * 5 * score
            self.assertEqual(told, [0, value, bound, bound - value])

    def test_all_slates_are_counted_each_time(self):
        calls = page([2, 2, 2, 1, 1], *[add()] * 9)
        self.assertEqual(run([*calls, *[("count_feasible",)] * 50])[10:], [[len(slates_of(9, 5))]] * 50)


if __name__ == "__main__":
    unittest.main()
