"""The calls 0 to 10: ordinary numbers, the edges of each range, and what is refused."""

import unittest

from helper import GREATEST, add, last, page, run


class Create(unittest.TestCase):
    def test_weights_that_fit(self):
        for weights in ([1], [1000], [4, 2], [3, 3], [5, 4, 3, 2, 1], [7, 7, 7, 7, 7], [1000, 1000, 1, 1]):
            with self.subTest(weights=weights):
                self.assertEqual(run([("create", weights)]), [[0]])

    def test_weights_outside_their_limits(self):
        refused = (
            [], [0], [1001], [GREATEST], [1, 0], [1001, 1], [2, 4], [3, 3, 4], [5, 1, 2], [4, 2, 3, 1],
            [1] * 6, [6, 5, 4, 3, 2, 1], [1] * 12, [12, 11, 10, 9, 8, 7, 6, 5, 4, 3, 2, 1],
        )
        for weights in refused:
            with self.subTest(weights=weights):
                self.assertEqual(run([("create", weights)]), [[-22]])

    def test_weights_belong_to_their_positions(self):
        for weights in ([9], [9, 7], [9, 7, 4], [9, 7, 4, 4], [9, 7, 4, 4, 1]):
            with self.subTest(weights=weights):
                calls = page(weights, *[add(10 ** place) for place in range(5)])
                slate = list(range(len(weights)))
                expected = sum(weight * 10 ** place for place, weight in enumerate(weights))
                self.assertEqual(last([*calls, ("value", slate)]), [expected, expected, 0])


class CreateAnew(unittest.TestCase):
    FILLED = [
        *page([4, 2], add(10, 1, 3, 9, [0]), add(20, 1, 3, 9, [1]), add(30, 2, 3, 9, [1, 2])),
        ("set_quota", 1, 1, 1), ("set_creators", 2, 2), ("set_freshness", 8, 1), ("set_diversity", 5),
        ("forbid", 0, 1), ("pin", 0, 1),
    ]

    def test_new_page_has_nothing_of_the_old_one(self):
        again = [*self.FILLED, ("create", [3, 2, 1])]
        self.assertEqual(last([*again, ("set_score", 0, 1)]), [-2])
        self.assertEqual(last([*again, add()]), [0])
        self.assertEqual(last([*again, ("set_quota", 1, 0, 0)]), [0, 5])
        self.assertEqual(last([*again, ("set_diversity", 0)]), [0])
        for position in (0, 1, 2):
            self.assertEqual(last([*again, ("unpin", position)]), [-33])
        same = [add(1, 1, 3, 9), add(1, 1, 3, 9), add(1, 1, 3, 9)]
        self.assertEqual(last([*again, *same, ("violation", [1, 0, 2])]), [0])
        self.assertEqual(last([*again, *same, ("value", [1, 0, 2])]), [6, 6, 0])
        self.assertEqual(last([*again, *same, ("allow", 0, 1)]), [-33])
        self.assertEqual(last([*again, *same, ("forbid", 0, 1)]), [1])

    def test_refused_create_keeps_the_page(self):
        for weights in ([], [0], [1, 2], [1001], [1] * 6, [1] * 12):
            with self.subTest(weights=weights):
                kept = [*self.FILLED, ("create", weights)]
                self.assertEqual(run(kept)[-1], [-22])
                self.assertEqual(last([*kept, ("value", [1, 2])]), [20 * 4 + 30 * 2 + 5 * 2, 140, 2])
                self.assertEqual(last([*kept, ("unpin", 0)]), [1])
                self.assertEqual(last([*kept, ("allow", 1, 0)]), [0])
                self.assertEqual(last([*kept, ("set_quota", 1, 0, 5)]), [1, 1])
                self.assertEqual(last([*kept, ("set_diversity", 0)]), [5])
                self.assertEqual(last([*kept, ("violation", [0, 1])]), [1, 0, 0])
                self.assertEqual(last([*kept, ("violation", [1, 2])]), [5, 0, 1])
                self.assertEqual(last([*kept, ("set_creators", 2, 1), ("violation", [1, 2])]), [7, 0, 0])

    def test_refused_create_ahead_of_a_page_makes_none(self):
        self.assertEqual(run([("create", []), add(), ("create", [1]), add()]), [[-22], [-11], [0], [0]])


class AddCandidate(unittest.TestCase):
    def test_numbers_count_up_to_nine(self):
        self.assertEqual(run(page([1], *[add()] * 9))[1:], [[number] for number in range(9)])

    def test_tenth_is_refused(self):
        full = page([1], *[add()] * 9)
        self.assertEqual(last([*full, add()]), [-28])
        self.assertEqual(run([*full, add(), add()])[-2:], [[-28], [-28]])
        self.assertEqual(last([*full, add(), ("value", [8])]), [0, 0, 0])
        self.assertEqual(last([*full, add(), ("value", [9])]), [-22])

    def test_limits_are_looked_at_ahead_of_the_count(self):
        full = page([1], *[add()] * 9)
        for wrong in (add(score=10001), add(group=6), add(creator=1001), add(age=10001), add(topics=[12])):
            with self.subTest(wrong=wrong):
                self.assertEqual(last([*full, wrong]), [-22])

    def test_edges_of_the_ranges(self):
        edges = (("score", 10000), ("group", 5), ("creator", 1000), ("age", 10000))
        for name, greatest in edges:
            with self.subTest(name=name):
                self.assertEqual(last(page([1], add(**{name: 0}))), [0])
                self.assertEqual(last(page([1], add(**{name: greatest}))), [0])
                self.assertEqual(last(page([1], add(**{name: greatest + 1}))), [-22])
                self.assertEqual(last(page([1], add(**{name: GREATEST}))), [-22])
        self.assertEqual(last(page([1], add(10000, 5, 1000, 10000, list(range(12))))), [0])

    def test_topics(self):
        for topics in ([], [0], [11], [0, 11], [3, 4, 9], list(range(12))):
            with self.subTest(topics=topics):
                calls = page([1], add(topics=topics))
                self.assertEqual(last(calls), [0])
                self.assertEqual(last([*calls, ("value", [0])]), [0, 0, len(topics)])

    def test_topics_outside_their_limits(self):
        refused = (
            [12], [GREATEST], [0, 12], [0, 0], [5, 5], [11, 11], [1, 0], [0, 2, 1], [0, 1, 1], [3, 1, 2],
            [0] * 12, list(range(1, 13)), list(range(11, -1, -1)),
        )
        for topics in refused:
            with self.subTest(topics=topics):
                self.assertEqual(last(page([1], add(topics=topics))), [-22])

    def test_refused_candidate_takes_no_number(self):
        self.assertEqual(run(page([1], add(), add(score=10001), add()))[1:], [[0], [-22], [1]])

    def test_everything_is_kept(self):
        calls = page([3, 2], add(7, 4, 600, 50, [1, 9]), add(0, 1, 2, 0))
        self.assertEqual(last([*calls, ("value", [0, 1])]), [21, 21, 2])
        self.assertEqual(last([*calls, ("set_quota", 4, 0, 0), ("violation", [0, 1])]), [2, 4, 0])
        self.assertEqual(last([*calls, ("set_freshness", 50, 2), ("violation", [0, 1])]), [0])
        self.assertEqual(last([*calls, ("set_freshness", 49, 2), ("violation", [0, 1])]), [7, 1, 0])
        twin = [*calls, add(creator=600), ("set_creators", 1, 1), ("violation", [2, 0])]
        self.assertEqual(last(twin), [4, 600, 0])


class SetScore(unittest.TestCase):
    CALLS = page([4, 2], add(10), add(20))

    def test_old_score_and_new_score(self):
        results = run([*self.CALLS, ("set_score", 1, 0), ("set_score", 1, 10000), ("set_score", 1, 3)])
        self.assertEqual(results[-3:], [[20], [0], [10000]])
        self.assertEqual(last([*self.CALLS, ("set_score", 1, 10000), ("value", [1, 0])]), [40020, 40020, 0])

    def test_refusals(self):
        self.assertEqual(last([*self.CALLS, ("set_score", 2, 1)]), [-2])
        self.assertEqual(last([*self.CALLS, ("set_score", GREATEST, 1)]), [-2])
        self.assertEqual(last([*self.CALLS, ("set_score", 1, 10001)]), [-22])
        self.assertEqual(last([*self.CALLS, ("set_score", 1, GREATEST)]), [-22])
        self.assertEqual(last([*self.CALLS, ("set_score", 2, 10001)]), [-2])
        self.assertEqual(last([("create", [1]), ("set_score", 0, 1)]), [-2])


class SetQuota(unittest.TestCase):
    def test_first_quota_of_each_group(self):
        for group in range(6):
            self.assertEqual(last([("create", [1]), ("set_quota", group, 1, 2)]), [0, 5])

    def test_old_quota(self):
        calls = [("create", [1]), ("set_quota", 5, 2, 3), ("set_quota", 0, 0, 0), ("set_quota", 5, 5, 5)]
        results = run([*calls, ("set_quota", 5, 0, 5), ("set_quota", 0, 0, 5)])
        self.assertEqual(results[1:], [[0, 5], [0, 5], [2, 3], [5, 5], [0, 0]])

    def test_refusals(self):
        refused = (
            (6, 0, 5), (GREATEST, 0, 5), (0, 0, 6), (0, 6, 6), (0, 5, 6), (0, 0, GREATEST),
            (0, 1, 0), (0, 5, 4), (0, GREATEST, 5), (6, 6, 5),
        )
        for arguments in refused:
            with self.subTest(arguments=arguments):
                results = run([("create", [1]), ("set_quota", *arguments), ("set_quota", 0, 0, 5)])
                self.assertEqual(results[1:], [[-22], [0, 5]])


class SetCreators(unittest.TestCase):
    def test_limits(self):
        for limit in (1, 2, 5):
            for spacing in (1, 3, 5):
                self.assertEqual(last([("create", [1]), ("set_creators", limit, spacing)]), [0])

    def test_refusals(self):
        for arguments in ((0, 1), (6, 1), (1, 0), (1, 6), (0, 0), (6, 6), (GREATEST, 1), (1, GREATEST)):
            with self.subTest(arguments=arguments):
                self.assertEqual(last([("create", [1]), ("set_creators", *arguments)]), [-22])


class SetFreshness(unittest.TestCase):
    def test_least_reaches_the_number_of_positions(self):
        for positions in range(1, 6):
            created = [("create", [1] * positions)]
            for least in range(positions + 1):
                self.assertEqual(last([*created, ("set_freshness", 0, least)]), [0])
            self.assertEqual(last([*created, ("set_freshness", 0, positions + 1)]), [-22])

    def test_ages(self):
        for age, expected in ((0, 0), (10000, 0), (10001, -22), (GREATEST, -22)):
            self.assertEqual(last([("create", [1, 1]), ("set_freshness", age, 1)]), [expected])
        self.assertEqual(last([("create", [1, 1]), ("set_freshness", 1, GREATEST)]), [-22])
        self.assertEqual(last([("create", [1, 1]), ("set_freshness", 10001, 3)]), [-22])


class SetDiversity(unittest.TestCase):
    def test_old_weight(self):
        weights = (100000, 0, 7, 7)
        results = run([("create", [1]), *[("set_diversity", weight) for weight in weights], ("set_diversity", 1)])
        self.assertEqual(results[1:], [[0], [100000], [0], [7], [7]])

    def test_refusals(self):
        for weight in (100001, GREATEST):
            results = run([("create", [1]), ("set_diversity", 9), ("set_diversity", weight), ("set_diversity", 1)])
            self.assertEqual(results[2:], [[-22], [9]])


class ForbidAndAllow(unittest.TestCase):
    CALLS = page([1, 1], add(), add(), add(), add())

    def test_counts(self):
        pairs = [("forbid", 0, 1), ("forbid", 3, 2), ("forbid", 1, 3), ("allow", 2, 3), ("allow", 0, 1), ("allow", 3, 1)]
        self.assertEqual(run([*self.CALLS, *pairs])[5:], [[1], [2], [3], [2], [1], [0]])

    def test_every_pair_of_nine_candidates(self):
        created = page([1, 1], *[add()] * 9)
        pairs = [("forbid", second, first) for second in range(9) for first in range(second)]
        self.assertEqual(run([*created, *pairs])[10:], [[count] for count in range(1, 37)])

    def test_pair_is_the_same_in_both_orders(self):
        for first, second in ((1, 2), (2, 1)):
            forbidden = [*self.CALLS, ("forbid", first, second)]
            for pair in ((1, 2), (2, 1)):
                self.assertEqual(last([*forbidden, ("forbid", *pair)]), [-17])
                self.assertEqual(last([*forbidden, ("allow", *pair)]), [0])

    def test_missing_candidates(self):
        for call in ("forbid", "allow"):
            for pair in ((4, 0), (0, 4), (4, 4), (4, 5), (GREATEST, 0), (0, GREATEST)):
                with self.subTest(call=call, pair=pair):
                    self.assertEqual(last([*self.CALLS, (call, *pair)]), [-2])

    def test_candidate_with_itself(self):
        for candidate in (0, 3):
            self.assertEqual(last([*self.CALLS, ("forbid", candidate, candidate)]), [-22])
            self.assertEqual(last([*self.CALLS, ("allow", candidate, candidate)]), [-33])

    def test_pair_that_is_not_forbidden(self):
        self.assertEqual(last([*self.CALLS, ("allow", 0, 1)]), [-33])
        self.assertEqual(last([*self.CALLS, ("forbid", 0, 1), ("allow", 0, 2)]), [-33])
        self.assertEqual(last([*self.CALLS, ("forbid", 0, 1), ("allow", 0, 1), ("allow", 0, 1)]), [-33])

    def test_allowed_pair_can_be_forbidden_again(self):
        self.assertEqual(last([*self.CALLS, ("forbid", 0, 1), ("allow", 1, 0), ("forbid", 1, 0)]), [1])


class PinAndUnpin(unittest.TestCase):
    CALLS = page([2, 1], add(), add(), add())

    def test_pin_then_unpin(self):
        results = run([*self.CALLS, ("pin", 0, 2), ("pin", 1, 0), ("unpin", 0), ("unpin", 1), ("unpin", 1)])
        self.assertEqual(results[4:], [[0], [0], [2], [0], [-33]])

    def test_pin_instead_of_another(self):
        results = run([*self.CALLS, ("pin", 0, 2), ("pin", 0, 1), ("pin", 1, 2), ("unpin", 0), ("unpin", 1)])
        self.assertEqual(results[4:], [[0], [0], [0], [1], [2]])

    def test_pin_again_at_its_position(self):
        self.assertEqual(run([*self.CALLS, ("pin", 1, 2), ("pin", 1, 2), ("unpin", 1)])[4:], [[0], [0], [2]])

    def test_pinned_at_another_position(self):
        results = run([*self.CALLS, ("pin", 0, 2), ("pin", 1, 2), ("unpin", 1), ("unpin", 0), ("pin", 1, 2)])
        self.assertEqual(results[4:], [[0], [-17], [-33], [2], [0]])
        self.assertEqual(last([*self.CALLS, ("pin", 0, 0), ("pin", 1, 0)]), [-17])
        self.assertEqual(last([*self.CALLS, ("pin", 0, 2), ("pin", 1, 1), ("pin", 1, 2)]), [-17])

    def test_order_of_the_refusals_of_pin(self):
        pinned = [*self.CALLS, ("pin", 0, 2)]
        self.assertEqual(last([*pinned, ("pin", 2, 3)]), [-2])
        self.assertEqual(last([*pinned, ("pin", 0, 3)]), [-2])
        self.assertEqual(last([*pinned, ("pin", GREATEST, GREATEST)]), [-2])
        self.assertEqual(last([*pinned, ("pin", 2, 2)]), [-22])
        self.assertEqual(last([*pinned, ("pin", 2, 1)]), [-22])
        self.assertEqual(last([*pinned, ("pin", GREATEST, 1)]), [-22])
        self.assertEqual(last([*pinned, ("pin", 1, 2)]), [-17])

    def test_refusals_of_unpin(self):
        pinned = [*self.CALLS, ("pin", 0, 2)]
        self.assertEqual(last([*pinned, ("unpin", 2)]), [-22])
        self.assertEqual(last([*pinned, ("unpin", GREATEST)]), [-22])
        self.assertEqual(last([*pinned, ("unpin", 1)]), [-33])

    def test_last_of_five_positions(self):
        calls = page([5, 4, 3, 2, 1], add())
        self.assertEqual(run([*calls, ("pin", 4, 0), ("pin", 5, 0), ("unpin", 5), ("unpin", 4)])[2:],
                         [[0], [-22], [-22], [0]])


if __name__ == "__main__":
    unittest.main()
