"""The document's example: one whole request with all its results."""

import unittest

from helper import cut, encode, run
from pageslates.slates import answers

ROWS = [
    (("create", [4, 2]), [0]),
    (("add_candidate", 10, 0, 1, 3, [0, 1]), [0]),
    (("add_candidate", 9, 0, 2, 8, [0]), [1]),
    (("add_candidate", 5, 1, 1, 1, [2, 3, 4]), [2]),
    (("set_diversity", 3), [0]),
    (("value", [0, 1]), [64, 58, 2]),
    (("value", [0, 2]), [65, 50, 5]),
    (("greedy",), [2, 1, 65, 0, 2]),
    (("best", 2), [2, 65, 0, 2, 64, 0, 1]),
    (("count_feasible",), [6]),
    (("improve", [2, 1]), [2, 65, 0, 2]),
    (("set_creators", 5, 2), [0]),
    (("violation", [0, 2]), [5, 0, 1]),
    (("best", 1), [1, 64, 0, 1]),
    (("set_quota", 0, 0, 1), [0, 5]),
    (("violation", [0, 1]), [2, 0, 0]),
    (("best", 1), [1, 58, 1, 2]),
    (("greedy",), [1, 0, 46, 0]),
    (("bound", [0, 0, 0, 0, 0, 0]), [0, 75, 60, 0, 5]),
    (("bound", [10, 0, 0, 0, 0, 0]), [0, 65, 40, 10, 5]),
    (("tune", 10, 1, [0, 0, 0, 0, 0, 0]), [0, 65, 10, 0, 0, 0, 0, 0]),
    (("gap", [10, 0, 0, 0, 0, 0]), [0, 58, 65, 7]),
    (("exposure", [1, 2]), [6, 2, 3, 1, 3, 0, 1, 0, 1, 0, 1, 0, 1]),
    (("cost_of", 0), [58, 64, 6]),
    (("cover", 2), [2, 5, 2, 0]),
    (("forbid", 2, 1), [1]),
    (("worth", 2), [-33]),
    (("allow", 1, 2), [0]),
    (("pin", 0, 2), [0]),
    (("best", 1), [1, 50, 2, 1]),
    (("unpin", 0), [2]),
    (("unpin", 0), [-33]),
    (("gain", 2, [1]), [19, 3, 1]),
    (("status",), [2, 3, 0, 0, 3]),
]


class Examples(unittest.TestCase):
    def test_rows(self):
        results = run([call for call, _ in ROWS])
        for (call, expected), result in zip(ROWS, results):
            with self.subTest(call=call):
                self.assertEqual(result, expected)

    def test_list_stays_and_is_answered_the_same_again(self):
        calls = encode([call for call, _ in ROWS])
        copied = list(calls)
        first = answers(calls)
        self.assertEqual(calls, copied)
        self.assertEqual(answers(calls), first)
        self.assertEqual(cut(first), [expected for _, expected in ROWS])


if __name__ == "__main__":
    unittest.main()
