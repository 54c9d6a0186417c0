"""No page, calls that are refused and change nothing, and calls that change just what they say."""

import unittest

from helper import GREATEST, add, last, page, run, slates_of

FORMS = (
    add(), ("set_score", 0, 1), ("set_quota", 0, 0, 5), ("set_creators", 5, 1), ("set_freshness", 0, 0),
    ("set_diversity", 0), ("forbid", 0, 1), ("allow", 0, 1), ("pin", 0, 0), ("unpin", 0), ("value", [0]),
    ("violation", [0]), ("gain", 0, []), ("greedy",), ("improve", [0]), ("best", 1), ("count_feasible",),
    ("bound", [0] * 6), ("tune", 1, 1, [-2147483648] * 6), ("gap", [0] * 6), ("exposure", [0]), ("cover", 1),
    ("cost_of", 0), ("worth", 0), ("candidate_info", 0), ("status",),
)

WRONG = (
    add(score=10001), ("set_score", 9, 10001), ("set_quota", 6, 2, 1), ("set_creators", 0, 6),
    ("set_freshness", 10001, 6), ("set_diversity", 100001), ("forbid", 9, 9), ("allow", 9, 9), ("pin", 5, 9),
    ("unpin", GREATEST), ("value", []), ("violation", [0] * 12), ("gain", GREATEST, [0] * 12),
)

# Every part of the page differs from what a new page has, and some slates are feasible all the same.
FILLED = [
    *page([4, 2], add(11, 0, 10, 1, [0, 1]), add(22, 1, 20, 2, [1, 2, 3]), add(33, 1, 10, 3, [4]),
          add(44, 0, 30, 4, [])),
    ("set_quota", 1, 0, 1), ("set_creators", 2, 2), ("set_freshness", 3, 1), ("set_diversity", 5),
    ("forbid", 2, 1), ("forbid", 0, 3), ("pin", 1, 3),
]

REFUSED = (
    (("create", []), -22), (("create", [1, 2]), -22), (("create", [0]), -22), (("create", [1] * 6), -22),
    (add(score=10001), -22), (add(group=6), -22), (add(creator=1001), -22), (add(age=10001), -22),
    (add(topics=[1, 1]), -22), (("set_score", 4, 1), -2), (("set_score", 0, 10001), -22),
    (("set_quota", 6, 0, 0), -22), (("set_quota", 0, 2, 1), -22), (("set_quota", 1, 0, 6), -22),
    (("set_creators", 0, 3), -22), (("set_creators", 6, 3), -22), (("set_creators", 1, 0), -22),
    (("set_creators", 1, 6), -22), (("set_freshness", 10001, 0), -22), (("set_freshness", 0, 3), -22),
    (("set_diversity", 100001), -22), (("forbid", 0, 4), -2), (("forbid", 3, 3), -22), (("forbid", 1, 2), -17),
    (("allow", 4, 0), -2), (("allow", 0, 2), -33), (("allow", 1, 1), -33), (("pin", 0, 4), -2),
    (("pin", 2, 0), -22), (("pin", 0, 3), -17), (("unpin", 2), -22), (("unpin", 0), -33),
    (("value", [0]), -22), (("violation", [0, 0]), -22), (("gain", 4, []), -2), (("gain", 0, [0]), -22),
)

ANSWERED = (("value", [1, 0]), ("violation", [0, 2]), ("gain", 1, [0]), ("gain", 3, []))

PAIRS = [(first, second) for second in range(4) for first in range(second)]

WIDE = [*[("set_quota", group, 0, 5) for group in range(6)], ("set_creators", 5, 1), ("set_freshness", 0, 0),
        ("unpin", 0), ("unpin", 1)]
FREE = [*WIDE, *[("allow", *pair) for pair in PAIRS]]

SLATES = slates_of(4, 2)
RING = [[0, 1], [1, 2], [2, 3], [3, 0]]

# What is looked at behind the call in question: calls that prepare for it, then the calls whose answers count.
# Together with a filled page each fits into one list of 60 calls.
LOOKS = {
    "values": ([], [("value", slate) for slate in SLATES]),
    "violations": ([], [("violation", slate) for slate in SLATES]),
    "without pins": ([("unpin", 0), ("unpin", 1)], [("violation", slate) for slate in SLATES]),
    "gains": ([], [("gain", slate[1], listed) for slate in SLATES for listed in ([], slate[:1])]),
    "positions": ([], [("violation", [0]), ("violation", [0, 1, 2]), ("pin", 2, 0)]),
    "scores": ([], [("set_score", candidate, 0) for candidate in range(5)]),
    "quotas": ([], [("set_quota", group, 0, 0) for group in range(6)]),
    "diversity": ([], [("set_diversity", 0)]),
    "next number": ([], [add(), add()]),
    "pins": ([], [("unpin", 0), ("unpin", 1)]),
    "forbidden pairs": ([], [("allow", *pair) for pair in PAIRS]),
    "effect of the pairs": (WIDE, [("violation", list(pair)) for pair in PAIRS]),
    "groups": (FREE, [
        call for group in range(3)
        for call in (("set_quota", group, 0, 0), *[("violation", slate) for slate in RING], ("set_quota", group, 0, 5))
    ]),
    "creators": ([*FREE, ("set_creators", 1, 1)], [("violation", list(pair)) for pair in PAIRS]),
    "ages": (FREE, [
        call for age in range(1, 5)
        for call in (("set_freshness", age, 2), *[("violation", slate) for slate in RING])
    ]),
}


PAIR_LOOKS = ("forbidden pairs", "violations", "without pins", "gains", "effect of the pairs")


def look(calls):
    """Tell what is seen of the page behind these calls."""
    seen = {}
    for name, (preparing, looking) in LOOKS.items():
        whole = [*calls, *preparing, *looking]
        assert len(whole) <= 60, name
        seen[name] = run(whole)[-len(looking):]
    return seen


class NoPage(unittest.TestCase):
    def test_every_call_but_create(self):
        for call in (*FORMS, *WRONG):
            with self.subTest(call=call):
                self.assertEqual(run([call]), [[-11]])
                self.assertEqual(run([("create", [1, 2]), call]), [[-22], [-11]])

    def test_all_in_one_list(self):
        self.assertEqual(run([*FORMS, *WRONG]), [[-11]] * (len(FORMS) + len(WRONG)))

    def test_page_is_found_once_it_is_created(self):
        self.assertEqual(run([add(), ("create", [1]), add(), ("value", [0])]), [[-11], [0], [0], [0, 0, 0]])


class NothingChanges(unittest.TestCase):
    def test_refused_calls(self):
        before = look(FILLED)
        for call, code in REFUSED:
            with self.subTest(call=call):
                self.assertEqual(last([*FILLED, call]), [code])
                self.assertEqual(look([*FILLED, call]), before)

    def test_tenth_candidate(self):
        full = [*FILLED, *[add(5)] * 5]
        before = look(full)
        self.assertEqual(last([*full, add(6, 1, 1, 1, [1])]), [-28])
        self.assertEqual(look([*full, add(6, 1, 1, 1, [1])]), before)

    def test_all_refused_calls_one_behind_another(self):
        calls = [*FILLED, *[call for call, _ in REFUSED]]
        for position in (0, 1):
            self.assertEqual(last([*calls, ("unpin", position)]), last([*FILLED, ("unpin", position)]))
        for slate in slates_of(4, 2):
            for call in ("value", "violation"):
                self.assertEqual(last([*calls, (call, slate)]), last([*FILLED, (call, slate)]))

    def test_questions(self):
        before = look(FILLED)
        for call in ANSWERED:
            with self.subTest(call=call):
                self.assertGreaterEqual(last([*FILLED, call])[0], 0)
                self.assertEqual(look([*FILLED, call]), before)


class JustWhatTheySay(unittest.TestCase):
    """What a call is to change is looked at alone; all else stays as it was before."""

    def check(self, calls, changed):
        before = look(FILLED)
        after = look([*FILLED, *calls])
        for name in LOOKS:
            if name in changed:
                self.assertNotEqual(after[name], before[name], name)
            else:
                self.assertEqual(after[name], before[name], name)
        return after

    def test_pin(self):
        after = self.check([("pin", 0, 2)], ("pins", "violations", "gains"))
        self.assertEqual(after["pins"], [[2], [3]])

    def test_pin_instead_of_another(self):
        after = self.check([("pin", 1, 0)], ("pins", "violations", "gains"))
        self.assertEqual(after["pins"], [[-33], [0]])

    def test_unpin(self):
        after = self.check([("unpin", 1)], ("pins", "violations", "gains"))
        self.assertEqual(after["pins"], [[-33], [-33]])

    def test_pin_that_is_there_already(self):
        self.check([("pin", 1, 3)], ())

    def test_pin_and_unpin(self):
        self.check([("pin", 0, 2), ("unpin", 0)], ())

    def test_forbid(self):
        after = self.check([("forbid", 3, 2)], PAIR_LOOKS)
        self.assertEqual(after["forbidden pairs"], [[-33], [-33], [2], [1], [-33], [0]])
        self.assertEqual(after["effect of the pairs"], [[0], [0], [6, 1, 2], [6, 0, 3], [0], [6, 2, 3]])

    def test_allow(self):
        after = self.check([("allow", 0, 3)], PAIR_LOOKS)
        self.assertEqual(after["forbidden pairs"], [[-33], [-33], [0], [-33], [-33], [-33]])
        self.assertEqual(after["effect of the pairs"], [[0], [0], [6, 1, 2], [0], [0], [0]])

    def test_forbid_and_allow(self):
        self.check([("forbid", 3, 2), ("allow", 2, 3)], ())

    def test_scores_and_constraints(self):
        self.check([("set_score", 2, 5)], ("scores", "values", "gains"))
        self.check([("set_diversity", 6)], ("diversity", "values", "gains"))
        self.check([("set_quota", 0, 2, 2)], ("quotas", "violations", "without pins"))
        self.check([("set_creators", 1, 1)], ("without pins",))
        self.check([("set_creators", 2, 1)], ("without pins",))
        self.check([("set_freshness", 1, 1)], ("violations", "without pins"))
        self.check([("set_freshness", 3, 2)], ("violations", "without pins"))


if __name__ == "__main__":
    unittest.main()
