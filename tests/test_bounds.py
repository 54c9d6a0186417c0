"""The calls bound, tune and gap: the three parts of the bound, the order of the tuning, and the limits."""

import unittest

from helper import GREATEST, add, last, page, run

LEAST = -1000000000
MOST = 1000000000
NONE = [0] * 6

# The page of the document's examples without its constraints: groups 0 0 1.
THREE = [
    *page([4, 2], add(10, 0, 1, 3, [0, 1]), add(9, 0, 2, 8, [0]), add(5, 1, 1, 1, [2, 3, 4])),
    ("set_diversity", 3),
]

WRONG_PRICES = (
    [], [0], [0] * 5, [0] * 7, [0] * 12,
    [MOST + 1, 0, 0, 0, 0, 0], [0, 0, 0, 0, 0, MOST + 1], [LEAST - 1, 0, 0, 0, 0, 0], [0, 0, 0, 0, 0, LEAST - 1],
    [0, 0, 2147483647, 0, 0, 0], [0, 0, 0, -2147483648, 0, 0], [MOST + 1] * 6, [LEAST - 1] * 5,
)


def prices_of(**groups):
    """Tell six prices, 0 but for the groups that are named g0 to g5."""
    return [groups.get(f"g{group}", 0) for group in range(6)]


class Bound(unittest.TestCase):
    def bound(self, prices, *calls):
        return last([*(calls or THREE), ("bound", prices)])

    def test_no_prices(self):
        self.assertEqual(self.bound(NONE), [0, 75, 60, 0, 5])

    def test_position_part(self):
        # Group 0 brings 40 and 20 less its price, group 1 brings 20 and 10.
        self.assertEqual(self.bound(prices_of(g0=7))[2], 33 + 13)
        self.assertEqual(self.bound(prices_of(g0=15))[2], 25 + 10)
        self.assertEqual(self.bound(prices_of(g0=100))[2], 20 + 10)
        self.assertEqual(self.bound(prices_of(g1=-15))[2], 40 + 25)
        self.assertEqual(self.bound(prices_of(g1=-30))[2], 50 + 40)
        self.assertEqual(self.bound(prices_of(g0=50, g1=50))[2], -10 - 30)

    def test_position_part_of_a_smaller_score(self):
        # The best candidate of the page need not be the best one behind its price.
        calls = page([3, 1], add(8, 4), add(5, 5), add(0, 3))
        self.assertEqual(self.bound(prices_of(g4=12), *calls)[:3], [0, 15 + 5 + 60, 15 + 5])
        self.assertEqual(self.bound(prices_of(g4=12, g5=9), *calls)[2], 12 + 0)

    def test_groups_without_candidates(self):
        self.assertEqual(self.bound(prices_of(g2=3)), [0, 75 + 15, 60, 15, 5])
        self.assertEqual(self.bound(prices_of(g5=-3)), [0, 75, 60, 0, 5])
        self.assertEqual(self.bound(prices_of(g5=-3), *THREE, ("set_quota", 5, 2, 3)), [0, 69, 60, -6, 5])

    def test_quota_part(self):
        calls = [*THREE, ("set_quota", 0, 1, 2), ("set_quota", 1, 2, 3), ("set_quota", 4, 5, 5)]
        self.assertEqual(self.bound(prices_of(g0=10), *calls)[3], 20)
        self.assertEqual(self.bound(prices_of(g0=-10), *calls)[3], -10)
        self.assertEqual(self.bound(prices_of(g1=10), *calls)[3], 30)
        self.assertEqual(self.bound(prices_of(g1=-10), *calls)[3], -20)
        self.assertEqual(self.bound(prices_of(g4=10), *calls)[3], 50)
        self.assertEqual(self.bound(prices_of(g4=-10), *calls)[3], -50)
        self.assertEqual(self.bound([1, -1, 2, -2, -3, 3], *calls)[3], 2 - 2 + 10 - 0 - 15 + 15)
        self.assertEqual(self.bound([5] * 6, *THREE)[3], 150)
        self.assertEqual(self.bound([-5] * 6, *THREE)[3], 0)
        self.assertEqual(self.bound([5] * 6, *calls, ("set_quota", 0, 0, 0))[3], 0 + 15 + 4 * 25)

    def test_bound_below_zero(self):
        calls = page([1], add(3, 2))
        self.assertEqual(self.bound(prices_of(g2=-9), *calls, ("set_quota", 2, 4, 5)), [0, -24, 12, -36, 0])

    def test_coverage_bound(self):
        one = page([3], add(0, topics=[0, 1]), add(0, topics=[1, 2, 3]), add(0, topics=[4]))
        self.assertEqual(self.bound(NONE, *one)[4], 3)
        two = page([3, 3], add(0, topics=[0, 1]), add(0, topics=[1, 2, 3]), add(0, topics=[4]))
        self.assertEqual(self.bound(NONE, *two)[4], 5)
        alike = page([3, 3], add(0, topics=[0, 1]), add(0, topics=[0, 1]), add(0, topics=[0, 1]))
        self.assertEqual(self.bound(NONE, *alike)[4], 2)
        more = page([3, 3, 3], add(0, topics=[7]), add(0, topics=list(range(12))))
        self.assertEqual(self.bound(NONE, *more)[4], 12)
        self.assertEqual(self.bound(NONE, *page([3, 3], add(), add()))[4], 0)

    def test_diversity_weight(self):
        for weight in (0, 1, 100000):
            self.assertEqual(self.bound(prices_of(g0=10), *THREE, ("set_diversity", weight)),
                             [0, 40 + 50 + 5 * weight, 40, 50, 5])

    def test_no_candidates(self):
        created = [("create", [4, 2]), ("set_diversity", 100000)]
        self.assertEqual(self.bound(NONE, *created), [0, 0, 0, 0, 0])
        self.assertEqual(self.bound([1, -1, 2, -2, 3, -3], *created), [0, 30, 0, 30, 0])
        self.assertEqual(self.bound([-7] * 6, *created, ("set_quota", 3, 2, 4)), [0, -14, 0, -14, 0])
        self.assertEqual(self.bound([MOST] * 6, *created), [0, 30 * MOST, 0, 30 * MOST, 0])

    def test_one_candidate_for_all_positions(self):
        self.assertEqual(self.bound(NONE, *page([5, 4, 3, 2, 1], add(10, 0, 0, 0, [1]))), [0, 150, 150, 0, 1])

    def test_other_constraints_do_not_matter(self):
        constraints = [("pin", 0, 2), ("forbid", 0, 1), ("set_creators", 1, 5), ("set_freshness", 0, 2)]
        self.assertEqual(self.bound(prices_of(g0=10), *THREE, *constraints), self.bound(prices_of(g0=10)))

    def test_edges_of_the_prices(self):
        self.assertEqual(self.bound([MOST] * 6), [0, 60 + 28 * MOST + 15, 60 - 2 * MOST, 30 * MOST, 5])
        self.assertEqual(self.bound([LEAST] * 6), [0, 60 - 2 * LEAST + 15, 60 - 2 * LEAST, 0, 5])
        full = [("set_quota", group, 5, 5) for group in range(6)]
        self.assertEqual(self.bound([LEAST] * 6, *THREE, *full), [0, 75 + 28 * LEAST, 60 - 2 * LEAST, 30 * LEAST, 5])

    def test_prices_outside_their_limits(self):
        for prices in WRONG_PRICES:
            for calls in (THREE, [("create", [1])]):
                with self.subTest(prices=prices):
                    self.assertEqual(last([*calls, ("bound", prices)]), [-22])

    def test_longest_list_of_prices(self):
        for call in ("bound", "gap"):
            self.assertEqual(run([*THREE, (call, [LEAST] * 12), ("status",)])[-2:], [[-22], [2, 3, 0, 0, 3]])


class Tune(unittest.TestCase):
    def tune(self, size, rounds, prices, *calls):
        return last([*(calls or THREE), ("tune", size, rounds, prices)])

    def test_up(self):
        calls = [*THREE, ("set_quota", 0, 0, 1)]
        self.assertEqual(self.tune(10, 1, NONE, *calls), [0, 65, 10, 0, 0, 0, 0, 0])

    def test_down(self):
        self.assertEqual(self.tune(10, 1, [0, 0, 10, 0, 0, 0]), [0, 75, 0, 0, 0, 0, 0, 0])
        self.assertEqual(self.tune(10, 1, [0, 0, 25, 0, 0, 0]), [0, 75 + 75, 0, 0, 15, 0, 0, 0])
        self.assertEqual(self.tune(10, 2, [0, 0, 25, 0, 0, 0]), [0, 75 + 25, 0, 0, 5, 0, 0, 0])
        needed = [*THREE, ("set_quota", 1, 1, 2)]
        # 20 and 10 of group 1 lie 20 and 10 behind group 0.
        self.assertEqual(self.tune(5, 1, NONE, *needed), [0, 70, 0, -5, 0, 0, 0, 0])
        self.assertEqual(self.tune(10, 1, NONE, *needed), [0, 65, 0, -10, 0, 0, 0, 0])

    def test_only_where_the_bound_becomes_smaller(self):
        # A price of -10 for a group that need not be there makes no bound smaller.
        self.assertEqual(self.tune(10, 5, NONE), [0, 75, 0, 0, 0, 0, 0, 0])
        self.assertEqual(self.tune(1, 20, [0, 0, -4, 0, 0, 0]), [0, 75, 0, 0, -4, 0, 0, 0])
        needed = [*THREE, ("set_quota", 1, 1, 2)]
        # From -10 on one position more goes to group 1, so that the bound stays as it is.
        self.assertEqual(self.tune(10, 2, NONE, *needed), [0, 65, 0, -10, 0, 0, 0, 0])
        self.assertEqual(self.tune(20, 1, NONE, *needed), [0, 65, 0, -20, 0, 0, 0, 0])
        self.assertEqual(self.tune(30, 1, NONE, *needed), [0, 75, 0, 0, 0, 0, 0, 0])

    def test_same_bound_leaves_the_price(self):
        calls = [*page([1], add(10, 0), add(4, 1)), ("set_quota", 0, 0, 1)]
        self.assertEqual(self.tune(6, 3, NONE, *calls), [0, 10, 0, 0, 0, 0, 0, 0])

    def test_price_changed_by_the_group_before(self):
        calls = [*page([1], add(10, 0), add(9, 1)), ("set_quota", 0, 0, 0), ("set_quota", 1, 0, 0)]
        # Group 1 alone would not make the bound smaller; behind group 0's new price it does.
        self.assertEqual(self.tune(10, 1, NONE, *calls), [0, 0, 10, 10, 0, 0, 0, 0])
        first_behind = [*page([1], add(9, 0), add(10, 1)), ("set_quota", 0, 0, 0), ("set_quota", 1, 0, 0)]
        self.assertEqual(self.tune(10, 1, NONE, *first_behind), [0, 9, 0, 10, 0, 0, 0, 0])
        # In the second round group 0 comes down to -1, and then group 1 beyond 0 too.
        self.assertEqual(self.tune(10, 2, NONE, *first_behind), [0, -1, 10, 20, 0, 0, 0, 0])

    def test_rounds(self):
        calls = [*page([1], add(100, 2)), ("set_quota", 2, 0, 0)]
        for rounds in (0, 1, 2, 7, 20):
            self.assertEqual(self.tune(3, rounds, NONE, *calls), [0, 100 - 3 * rounds, 0, 0, 3 * rounds, 0, 0, 0])

    def test_no_rounds_keep_the_prices(self):
        prices = [MOST, LEAST, 5, -5, 0, 1]
        self.assertEqual(self.tune(9, 0, prices), [0, last([*THREE, ("bound", prices)])[1], *prices])

    def test_no_candidates(self):
        # A price goes down as long as it is above 0, and never further.
        prices = [9, -9, 3, 0, 8, 4]
        self.assertEqual(self.tune(4, 1, prices, ("create", [2])), [0, 5 * (5 + 4), 5, -9, -1, 0, 4, 0])
        self.assertEqual(self.tune(4, 2, prices, ("create", [2])), [0, 5 * 1, 1, -9, -1, 0, 0, 0])
        self.assertEqual(self.tune(4, 3, prices, ("create", [2])), [0, 0, -3, -9, -1, 0, 0, 0])
        self.assertEqual(self.tune(4, 20, prices, ("create", [2])), [0, 0, -3, -9, -1, 0, 0, 0])

    def test_group_that_is_short_of_candidates(self):
        # More is asked for than there are positions, so each step down makes the bound smaller.
        calls = [*page([1], add(1, 0)), ("set_quota", 0, 5, 5)]
        self.assertEqual(self.tune(1000000, 20, prices_of(g0=-980000000), *calls),
                         [0, 1 - 4 * 1000000000, -1000000000, 0, 0, 0, 0, 0])

    def test_prices_may_be_tuned_beyond_their_limits(self):
        calls = [*page([1], add(1, 0)), ("set_quota", 0, 5, 5)]
        self.assertEqual(self.tune(1000000, 20, prices_of(g0=LEAST), *calls),
                         [0, 1 - 4 * 1020000000, -1020000000, 0, 0, 0, 0, 0])

    def test_edges_of_size_and_rounds(self):
        for size, expected in ((0, -22), (1, 0), (1000000, 0), (1000001, -22), (GREATEST, -22)):
            self.assertEqual(self.tune(size, 1, NONE)[0], expected)
        for rounds, expected in ((0, 0), (20, 0), (21, -22), (GREATEST, -22)):
            self.assertEqual(self.tune(1, rounds, NONE)[0], expected)
        for rounds in (0, 20):
            self.assertEqual(self.tune(0, rounds, NONE), [-22])
        self.assertEqual(self.tune(0, 21, [0] * 5), [-22])

    def test_edges_of_the_prices(self):
        # A million down is the most that a step can do for the price of a group without candidates.
        self.assertEqual(self.tune(1000000, 1, prices_of(g5=MOST)), [0, 75 + 5 * 999000000, 0, 0, 0, 0, 0, 999000000])
        self.assertEqual(self.tune(1, 1, prices_of(g5=LEAST)), [0, 75, 0, 0, 0, 0, 0, LEAST])

    def test_prices_outside_their_limits(self):
        for prices in WRONG_PRICES:
            for rounds in (0, 1):
                with self.subTest(prices=prices):
                    self.assertEqual(self.tune(1, rounds, prices), [-22])
        self.assertEqual(self.tune(1, 1, [0] * 7, ("create", [1])), [-22])

    def test_prices_that_are_handed_in_stay(self):
        calls = [*THREE, ("set_quota", 0, 0, 1), ("tune", 10, 1, NONE), ("bound", NONE), ("tune", 10, 1, NONE)]
        self.assertEqual(run(calls)[-3:], [[0, 65, 10, 0, 0, 0, 0, 0], [0, 75, 60, 0, 5],
                                           [0, 65, 10, 0, 0, 0, 0, 0]])


class Gap(unittest.TestCase):
    def test_gaps(self):
        self.assertEqual(last([*THREE, ("gap", NONE)]), [0, 65, 75, 10])
        self.assertEqual(last([*THREE, ("gap", prices_of(g2=-4))]), [0, 65, 75, 10])
        self.assertEqual(last([*THREE, ("gap", prices_of(g2=4))]), [0, 65, 95, 30])
        needed = [*THREE, ("set_quota", 1, 1, 2), ("set_quota", 0, 1, 1)]
        self.assertEqual(last([*needed, ("gap", prices_of(g0=10))]), [0, 65, 65, 0])

    def test_value_zero(self):
        self.assertEqual(last([*page([3], add()), ("gap", NONE)]), [0, 0, 0, 0])

    def test_edges_of_the_prices(self):
        for price in (LEAST, MOST):
            bound = last([*THREE, ("bound", [price] * 6)])[1]
            self.assertEqual(last([*THREE, ("gap", [price] * 6)]), [0, 65, bound, bound - 65])

    def test_refusals_in_their_order(self):
        barren = [*THREE, ("set_quota", 5, 1, 1)]
        for prices in WRONG_PRICES:
            with self.subTest(prices=prices):
                self.assertEqual(last([*THREE, ("gap", prices)]), [-22])
                self.assertEqual(last([*barren, ("gap", prices)]), [-22])
                self.assertEqual(last([("create", [1]), ("gap", prices)]), [-22])
        for prices in (NONE, [LEAST] * 6, [MOST] * 6):
            self.assertEqual(last([*barren, ("gap", prices)]), [-33])
            self.assertEqual(last([("create", [1]), ("gap", prices)]), [-33])
            self.assertEqual(last([*page([1, 1], add()), ("gap", prices)]), [-33])


if __name__ == "__main__":
    unittest.main()
