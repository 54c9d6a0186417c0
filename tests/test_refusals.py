"""No page, calls that are refused and change nothing, and calls that change just what they say."""

import unittest

from helper import GREATEST, add, last, page, run, slates_of

FORMS = (
    add(), ("set_score", 0, 1), ("set_quota", 0, 0, 5), ("set_creators", 5, 1), ("set_freshness", 0, 0),
    ("set_diversity", 0), ("forbid", 0, 1), ("allow", 0, 1), ("pin", 0, 0), ("unpin", 0), ("value", [0]),
    ("violation", [0]), ("gain", 0, []), ("greedy",), ("improve", [0]), ("best", 1), ("count_feasible",),
    ("bound", [0] * 6), ("tune", 1, 1, [-2147483648] * 6), ("gap", [0] * 6), ("exposure", [0]), ("cover", 1),
    ("cost_of", 0), ("worth", 0), ("candidate_info", 0), ("status",),
)

WRONG = (
    add(score=10001), ("set_score", 9, 10001), ("set_quota", 6, 2, 1), ("set_creators", 0, 6),
    ("set_freshness", 10001, 6), ("set_diversity", 100001), ("forbid", 9, 9), ("allow", 9, 9), ("pin", 5, 9),
    ("unpin", GREATEST), ("value", []), ("violation", [0] * 12), ("gain", GREATEST, [0] * 12),
    ("improve", [0, 0]), ("best", 0), ("bound", []), ("tune", 0, 21, [0] * 5), ("gap", [0] * 7), ("exposure", []),
    ("cover", GREATEST), ("cost_of", 6), ("worth", 9), ("candidate_info", 9),
)

# Every part of the page differs from what a new page has, and some slates are feasible all the same.
FILLED = [
    *page([4, 2], add(11, 0, 10, 1, [0, 1]), add(22, 1, 20, 2, [1, 2, 3]), add(33, 1, 10, 3, [4]),
          add(44, 0, 30, 4, [])),
    ("set_quota", 1, 0, 1), ("set_creators", 2, 2), ("set_freshness", 3, 1), ("set_diversity", 5),
    ("forbid", 2, 1), ("forbid", 0, 3), ("pin", 1, 3),
]

REFUSED = (
    (("create", []), -22), (("create", [1, 2]), -22), (("create", [0]), -22), (("create", [1] * 6), -22),
    (add(score=10001), -22), (add(group=6), -22), (add(creator=1001), -22), (add(age=10001), -22),
    (add(topics=[1, 1]), -22), (("set_score", 4, 1), -2), (("set_score", 0, 10001), -22),
    (("set_quota", 6, 0, 0), -22), (("set_quota", 0, 2, 1), -22), (("set_quota", 1, 0, 6), -22),
    (("set_creators", 0, 3), -22), (("set_creators", 6, 3), -22), (("set_creators", 1, 0), -22),
    (("set_creators", 1, 6), -22), (("set_freshness", 10001, 0), -22), (("set_freshness", 0, 3), -22),
    (("set_diversity", 100001), -22), (("forbid", 0, 4), -2), (("forbid", 3, 3), -22), (("forbid", 1, 2), -17),
    (("allow", 4, 0), -2), (("allow", 0, 2), -33), (("allow", 1, 1), -33), (("pin", 0, 4), -2),
    (("pin", 2, 0), -22), (("pin", 0, 3), -17), (("unpin", 2), -22), (("unpin", 0), -33),
    (("value", [0]), -22), (("violation", [0, 0]), -22), (("gain", 4, []), -2), (("gain", 0, [0]), -22),
    (("improve", []), -22), (("improve", [1, 1]), -22), (("improve", [0, 3]), -22), (("best", 0), -22),
    (("best", 6), -22), (("bound", [0] * 5), -22), (("bound", [1000000001] * 6), -22), (("tune", 0, 1, [0] * 6), -22),
    (("tune", 1, 21, [0] * 6), -22), (("tune", 1000001, 1, [0] * 6), -22), (("tune", 1, 1, [0] * 7), -22),
    (("gap", [-1000000001] * 6), -22), (("gap", []), -22), (("exposure", [0]), -22), (("exposure", [0, 4]), -22),
    (("cost_of", 6), -22), (("worth", 4), -2), (("candidate_info", 4), -2),
)

# What is refused besides where no slate is feasible.
REFUSED_WITHOUT_SLATES = (
    (("improve", [2, 3]), -22), (("best", 1), -33), (("best", 5), -33), (("gap", [0] * 6), -33),
    *[(("cost_of", kind), -33) for kind in range(6)], *[(("worth", candidate), -33) for candidate in range(4)],
)

ANSWERED = (("value", [1, 0]), ("violation", [0, 2]), ("gain", 1, [0]), ("gain", 3, []))

# The calls 14 to 26, each of them answered on the filled page.
COMPOSING = (
    ("greedy",), ("improve", [2, 3]), ("improve", [1, 3]), ("best", 1), ("best", 5), ("count_feasible",),
    ("bound", [0] * 6), ("bound", [9, -9, 4, 0, 1, -1]), ("tune", 5, 3, [0] * 6),
    ("tune", 1, 20, [30, -30, 0, 7, 0, 0]),
    ("gap", [0] * 6), ("gap", [3] * 6), ("exposure", [1, 0]), ("exposure", [2, 3]), ("cover", 0), ("cover", 4),
    ("cover", GREATEST), *[("cost_of", kind) for kind in range(6)], *[("worth", candidate) for candidate in range(4)],
    *[("candidate_info", candidate) for candidate in range(4)], ("status",),
)

PAIRS = [(first, second) for second in range(4) for first in range(second)]

WIDE = [*[("set_quota", group, 0, 5) for group in range(6)], ("set_creators", 5, 1), ("set_freshness", 0, 0),
        ("unpin", 0), ("unpin", 1)]
FREE = [*WIDE, *[("allow", *pair) for pair in PAIRS]]

SLATES = slates_of(4, 2)
RING = [[0, 1], [1, 2], [2, 3], [3, 0]]

# What is looked at behind the call in question: calls that prepare for it, then the calls whose answers count.
# Together with a filled page each fits into one list of 60 calls.
LOOKS = {
    "values": ([], [("value", slate) for slate in SLATES]),
    "violations": ([], [("violation", slate) for slate in SLATES]),
    "without pins": ([("unpin", 0), ("unpin", 1)], [("violation", slate) for slate in SLATES]),
    "gains": ([], [("gain", slate[1], listed) for slate in SLATES for listed in ([], slate[:1])]),
    "positions": ([], [("violation", [0]), ("violation", [0, 1, 2]), ("pin", 2, 0)]),
    "scores": ([], [("set_score", candidate, 0) for candidate in range(5)]),
    "quotas": ([], [("set_quota", group, 0, 0) for group in range(6)]),
    "diversity": ([], [("set_diversity", 0)]),
    "next number": ([], [add(), add()]),
    "pins": ([], [("unpin", 0), ("unpin", 1)]),
    "forbidden pairs": ([], [("allow", *pair) for pair in PAIRS]),
    "effect of the pairs": (WIDE, [("violation", list(pair)) for pair in PAIRS]),
    "groups": (FREE, [
        call for group in range(3)
        for call in (("set_quota", group, 0, 0), *[("violation", slate) for slate in RING], ("set_quota", group, 0, 5))
    ]),
    "creators": ([*FREE, ("set_creators", 1, 1)], [("violation", list(pair)) for pair in PAIRS]),
    "ages": (FREE, [
        call for age in range(1, 5)
        for call in (("set_freshness", age, 2), *[("violation", slate) for slate in RING])
    ]),
}


# These see all of the page at once, so they count where nothing is to change.
WHOLE_LOOKS = {
    **LOOKS,
    "composed": ([], list(COMPOSING)),
    "composed without constraints": (FREE, list(COMPOSING)[:30]),
}

PAIR_LOOKS = ("forbidden pairs", "violations", "without pins", "gains", "effect of the pairs")


def look(calls, looks=LOOKS):
    """Tell what is seen of the page behind these calls."""
    seen = {}
    for name, (preparing, looking) in looks.items():
        whole = [*calls, *preparing, *looking]
        assert len(whole) <= 60, name
        seen[name] = run(whole)[-len(looking):]
    return seen


class NoPage(unittest.TestCase):
    def test_every_call_but_create(self):
        for call in (*FORMS, *WRONG):
            with self.subTest(call=call):
                self.assertEqual(run([call]), [[-11]])
                self.assertEqual(run([("create", [1, 2]), call]), [[-22], [-11]])

    def test_all_in_one_list(self):
        self.assertEqual(run([*FORMS, *WRONG]), [[-11]] * (len(FORMS) + len(WRONG)))

    def test_page_is_found_once_it_is_created(self):
        self.assertEqual(run([add(), ("create", [1]), add(), ("value", [0])]), [[-11], [0], [0], [0, 0, 0]])


class NothingChanges(unittest.TestCase):
    def test_refused_calls(self):
        before = look(FILLED, WHOLE_LOOKS)
        for call, code in REFUSED:
            with self.subTest(call=call):
                self.assertEqual(last([*FILLED, call]), [code])
                self.assertEqual(look([*FILLED, call], WHOLE_LOOKS), before)

    def test_refused_calls_where_no_slate_is_feasible(self):
        barren = [*FILLED, ("set_quota", 5, 1, 1)]
        before = look(barren, WHOLE_LOOKS)
        self.assertEqual(last([*barren, ("count_feasible",)]), [0])
        for call, code in (*REFUSED_WITHOUT_SLATES, *REFUSED):
            with self.subTest(call=call):
                self.assertEqual(last([*barren, call]), [code])
                self.assertEqual(look([*barren, call], WHOLE_LOOKS), before)

    def test_tenth_candidate(self):
        full = [*FILLED, *[add(5)] * 5]
        before = look(full)
        self.assertEqual(last([*full, add(6, 1, 1, 1, [1])]), [-28])
        self.assertEqual(look([*full, add(6, 1, 1, 1, [1])]), before)

    def test_all_refused_calls_one_behind_another(self):
        # A list has room for half of them at a time.
        half = len(REFUSED) // 2
        for refused in (REFUSED[:half], REFUSED[half:]):
            self.check_one_behind_another([*FILLED, *[call for call, _ in refused]])

    def check_one_behind_another(self, calls):
        self.assertLessEqual(len(calls), 59)
        for position in (0, 1):
            self.assertEqual(last([*calls, ("unpin", position)]), last([*FILLED, ("unpin", position)]))
        for slate in slates_of(4, 2):
            for call in ("value", "violation"):
                self.assertEqual(last([*calls, (call, slate)]), last([*FILLED, (call, slate)]))

    def test_questions(self):
        before = look(FILLED, WHOLE_LOOKS)
        for call in (*ANSWERED, *COMPOSING):
            with self.subTest(call=call):
                self.assertGreaterEqual(last([*FILLED, call])[0], 0)
                self.assertEqual(look([*FILLED, call], WHOLE_LOOKS), before)

    def test_questions_one_behind_another(self):
        alone = [last([*FILLED, call]) for call in COMPOSING]
        self.assertEqual(run([*FILLED, *COMPOSING])[len(FILLED):], alone)
        self.assertEqual(run([*FILLED, *reversed(COMPOSING)])[len(FILLED):], alone[::-1])
        for constraint in (("unpin", 1), ("allow", 1, 2), ("set_quota", 1, 0, 5), ("set_creators", 5, 1)):
            changed = [*FILLED, *COMPOSING, constraint, ("best", 5)]
            self.assertEqual(last(changed), last([*FILLED, constraint, ("best", 5)]))


class JustWhatTheySay(unittest.TestCase):
    """What a call is to change is looked at alone; all else stays as it was before."""

    def check(self, calls, changed):
        before = look(FILLED)
        after = look([*FILLED, *calls])
        for name in LOOKS:
            if name in changed:
                self.assertNotEqual(after[name], before[name], name)
            else:
                self.assertEqual(after[name], before[name], name)
        return after

    def test_pin(self):
        after = self.check([("pin", 0, 2)], ("pins", "violations", "gains"))
        self.assertEqual(after["pins"], [[2], [3]])

    def test_pin_instead_of_another(self):
        after = self.check([("pin", 1, 0)], ("pins", "violations", "gains"))
        self.assertEqual(after["pins"], [[-33], [0]])

    def test_unpin(self):
        after = self.check([("unpin", 1)], ("pins", "violations", "gains"))
        self.assertEqual(after["pins"], [[-33], [-33]])

    def test_pin_that_is_there_already(self):
        self.check([("pin", 1, 3)], ())

    def test_pin_and_unpin(self):
        self.check([("pin", 0, 2), ("unpin", 0)], ())

    def test_forbid(self):
        after = self.check([("forbid", 3, 2)], PAIR_LOOKS)
        self.assertEqual(after["forbidden pairs"], [[-33], [-33], [2], [1], [-33], [0]])
        self.assertEqual(after["effect of the pairs"], [[0], [0], [6, 1, 2], [6, 0, 3], [0], [6, 2, 3]])

    def test_allow(self):
        after = self.check([("allow", 0, 3)], PAIR_LOOKS)
        self.assertEqual(after["forbidden pairs"], [[-33], [-33], [0], [-33], [-33], [-33]])
        self.assertEqual(after["effect of the pairs"], [[0], [0], [6, 1, 2], [0], [0], [0]])

    def test_forbid_and_allow(self):
        self.check([("forbid", 3, 2), ("allow", 2, 3)], ())

    def test_scores_and_constraints(self):
        self.check([("set_score", 2, 5)], ("scores", "values", "gains"))
        self.check([("set_diversity", 6)], ("diversity", "values", "gains"))
        self.check([("set_quota", 0, 2, 2)], ("quotas", "violations", "without pins"))
        self.check([("set_creators", 1, 1)], ("without pins",))
        self.check([("set_creators", 2, 1)], ("without pins",))
        self.check([("set_freshness", 1, 1)], ("violations", "without pins"))
        self.check([("set_freshness", 3, 2)], ("violations", "without pins"))


if __name__ == "__main__":
    unittest.main()
