"""The call violation: each kind alone, several at once, and the numbers that go with each kind."""

import unittest

from helper import add, last, page

# Groups 0 0 1 1 2, creators 10 20 10 30 10, ages 1 2 3 4 5.
PAGE = page([5, 4, 3, 2], add(9, 0, 10, 1), add(8, 0, 20, 2), add(7, 1, 10, 3), add(6, 1, 30, 4), add(5, 2, 10, 5))


def violation(constraints, slate):
    return last([*PAGE, *constraints, ("violation", slate)])


class EachKindAlone(unittest.TestCase):
    def test_none(self):
        self.assertEqual(violation([], [0, 1, 2, 3]), [0])
        self.assertEqual(violation([], [4, 2, 0, 1]), [0])

    def test_new_page_has_no_constraints(self):
        alike = page([1, 1, 1, 1, 1], *[add(0, 5, 1000, 10000)] * 5)
        self.assertEqual(last([*alike, ("violation", [4, 3, 2, 1, 0])]), [0])
        self.assertEqual(last([*alike, ("gain", 0, [4, 3, 2, 1])]), [0, 0, 1])

    def test_pins(self):
        self.assertEqual(violation([("pin", 0, 1)], [0, 1, 2, 3]), [1, 0, 0])
        self.assertEqual(violation([("pin", 3, 4)], [0, 1, 2, 3]), [1, 3, 0])
        self.assertEqual(violation([("pin", 3, 4)], [0, 1, 2, 4]), [0])
        self.assertEqual(violation([("pin", 0, 0), ("pin", 3, 4), ("pin", 2, 1)], [0, 1, 2, 3]), [1, 2, 0])
        self.assertEqual(violation([("pin", 0, 1), ("unpin", 0)], [0, 1, 2, 3]), [0])
        self.assertEqual(violation([("pin", 0, 1), ("pin", 0, 0)], [0, 1, 2, 3]), [0])

    def test_upper_quota(self):
        self.assertEqual(violation([("set_quota", 0, 0, 1)], [0, 1, 2, 3]), [2, 0, 0])
        self.assertEqual(violation([("set_quota", 0, 0, 1)], [0, 4, 2, 3]), [0])
        self.assertEqual(violation([("set_quota", 0, 0, 2)], [0, 1, 2, 3]), [0])
        self.assertEqual(violation([("set_quota", 2, 0, 0)], [0, 1, 2, 4]), [2, 2, 0])
        self.assertEqual(violation([("set_quota", 1, 0, 1), ("set_quota", 0, 0, 1)], [2, 3, 0, 1]), [2, 0, 0])
        self.assertEqual(violation([("set_quota", 1, 0, 1), ("set_quota", 2, 0, 0)], [4, 3, 2, 1]), [2, 1, 0])

    def test_lower_quota(self):
        self.assertEqual(violation([("set_quota", 2, 1, 5)], [0, 1, 2, 3]), [3, 2, 0])
        self.assertEqual(violation([("set_quota", 2, 1, 5)], [0, 1, 2, 4]), [0])
        self.assertEqual(violation([("set_quota", 5, 1, 1)], [0, 1, 2, 4]), [3, 5, 0])
        self.assertEqual(violation([("set_quota", 5, 5, 5), ("set_quota", 1, 2, 2)], [0, 1, 2, 4]), [3, 1, 0])

    def test_limit_of_creators(self):
        self.assertEqual(violation([("set_creators", 1, 1)], [1, 0, 3, 2]), [4, 10, 0])
        self.assertEqual(violation([("set_creators", 2, 1)], [1, 0, 3, 2]), [0])
        self.assertEqual(violation([("set_creators", 2, 1)], [4, 0, 3, 2]), [4, 10, 0])
        self.assertEqual(violation([("set_creators", 3, 1)], [4, 0, 3, 2]), [0])

    def test_first_creator_of_the_slate_is_told(self):
        twice = [add(1, 0, 20, 0), ("set_creators", 1, 1)]
        self.assertEqual(violation(twice, [5, 0, 2, 1]), [4, 20, 0])
        self.assertEqual(violation(twice, [0, 5, 1, 2]), [4, 10, 0])
        self.assertEqual(violation(twice, [3, 5, 0, 1]), [4, 20, 0])

    def test_creator_zero_is_told(self):
        self.assertEqual(last([*page([1, 1], add(), add()), ("set_creators", 1, 1), ("violation", [0, 1])]), [4, 0, 0])

    def test_spacing(self):
        self.assertEqual(violation([("set_creators", 5, 1)], [0, 2, 4, 1]), [0])
        self.assertEqual(violation([("set_creators", 5, 2)], [0, 1, 2, 3]), [0])
        self.assertEqual(violation([("set_creators", 5, 3)], [0, 1, 2, 3]), [5, 0, 2])
        self.assertEqual(violation([("set_creators", 5, 3)], [0, 1, 3, 2]), [0])
        self.assertEqual(violation([("set_creators", 5, 4)], [0, 1, 3, 2]), [5, 0, 3])
        self.assertEqual(violation([("set_creators", 5, 5)], [1, 0, 3, 2]), [5, 1, 3])
        self.assertEqual(violation([("set_creators", 5, 2)], [1, 3, 2, 4]), [5, 2, 3])

    def test_first_pair_of_the_spacing(self):
        self.assertEqual(violation([("set_creators", 5, 5)], [0, 2, 1, 4]), [5, 0, 1])
        self.assertEqual(violation([("set_creators", 5, 2)], [1, 0, 2, 4]), [5, 1, 2])
        between = [add(1, 0, 20, 0), ("set_creators", 5, 4)]
        self.assertEqual(violation(between, [0, 1, 5, 2]), [5, 0, 3])
        self.assertEqual(violation([*between, ("set_creators", 5, 3)], [0, 1, 5, 2]), [5, 1, 2])

    def test_forbidden_pair(self):
        self.assertEqual(violation([("forbid", 3, 1)], [0, 1, 2, 3]), [6, 1, 3])
        self.assertEqual(violation([("forbid", 1, 3)], [3, 2, 1, 0]), [6, 1, 3])
        self.assertEqual(violation([("forbid", 1, 4)], [0, 1, 2, 3]), [0])
        self.assertEqual(violation([("forbid", 4, 1)], [0, 2, 3, 4]), [0])

    def test_first_forbidden_pair_is_told(self):
        forbidden = [("forbid", 3, 2), ("forbid", 1, 0), ("forbid", 0, 2)]
        self.assertEqual(violation(forbidden, [0, 1, 2, 3]), [6, 2, 3])
        self.assertEqual(violation(forbidden, [0, 1, 2, 4]), [6, 0, 1])
        self.assertEqual(violation([*forbidden, ("allow", 2, 3)], [0, 1, 2, 3]), [6, 0, 1])
        again = [*forbidden, ("allow", 2, 3), ("forbid", 2, 3)]
        self.assertEqual(violation(again, [0, 1, 2, 3]), [6, 0, 1])
        self.assertEqual(violation([*again, ("allow", 0, 1)], [0, 1, 2, 3]), [6, 0, 2])
        self.assertEqual(violation([*again, ("allow", 0, 1), ("allow", 2, 0)], [0, 1, 2, 3]), [6, 2, 3])

    def test_freshness(self):
        self.assertEqual(violation([("set_freshness", 0, 1)], [0, 1, 2, 3]), [7, 0, 0])
        self.assertEqual(violation([("set_freshness", 1, 1)], [0, 1, 2, 3]), [0])
        self.assertEqual(violation([("set_freshness", 3, 4)], [0, 1, 2, 3]), [7, 3, 0])
        self.assertEqual(violation([("set_freshness", 4, 4)], [0, 1, 2, 3]), [0])
        self.assertEqual(violation([("set_freshness", 0, 0)], [4, 3, 2, 1]), [0])
        self.assertEqual(violation([("set_freshness", 10000, 4)], [4, 3, 2, 1]), [0])


class SeveralAtOnce(unittest.TestCase):
    # In [0, 1, 2, 3] each of these is a violation of its kind.
    BROKEN = {
        1: ([("pin", 2, 4)], [1, 2, 0]),
        2: ([("set_quota", 1, 0, 1)], [2, 1, 0]),
        3: ([("set_quota", 0, 3, 4)], [3, 0, 0]),
        4: ([("set_creators", 1, 1)], [4, 10, 0]),
        5: ([("set_creators", 2, 3)], [5, 0, 2]),
        6: ([("forbid", 0, 3)], [6, 0, 3]),
        7: ([("set_freshness", 2, 3)], [7, 2, 0]),
    }

    def test_each_alone(self):
        for kind, (constraints, expected) in self.BROKEN.items():
            with self.subTest(kind=kind):
                self.assertEqual(violation(constraints, [0, 1, 2, 3]), expected)

    def test_first_of_two(self):
        for kind, (constraints, expected) in self.BROKEN.items():
            for later in range(kind + 1, 8):
                if (kind, later) == (4, 5):
                    continue
                with self.subTest(kind=kind, later=later):
                    both = [*self.BROKEN[later][0], *constraints]
                    self.assertEqual(violation(both, [0, 1, 2, 3]), expected)

    def test_limit_ahead_of_spacing(self):
        self.assertEqual(violation([("set_creators", 1, 3)], [0, 1, 2, 3]), [4, 10, 0])

    def test_all_at_once_then_mended_one_by_one(self):
        constraints = []
        for kind in (7, 6, 3, 2, 1):
            constraints += self.BROKEN[kind][0]
        constraints.append(("set_creators", 1, 3))
        mending = (
            ("unpin", 2), ("set_quota", 1, 0, 5), ("set_quota", 0, 0, 5), ("set_creators", 2, 3),
            ("set_creators", 5, 1), ("allow", 0, 3), ("set_freshness", 10000, 0),
        )
        for kind, mend in enumerate(mending, 1):
            self.assertEqual(violation(constraints, [0, 1, 2, 3]), self.BROKEN[kind][1])
            constraints.append(mend)
        self.assertEqual(violation(constraints, [0, 1, 2, 3]), [0])

    def test_upper_quota_of_a_later_group_ahead_of_lower_quota(self):
        constraints = [("set_quota", 0, 3, 5), ("set_quota", 1, 0, 1)]
        self.assertEqual(violation(constraints, [0, 1, 2, 3]), [2, 1, 0])


if __name__ == "__main__":
    unittest.main()
