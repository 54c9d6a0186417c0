"""The rows of the document's examples that use the calls 0 to 13."""

import unittest

from helper import run

ROWS = [
    (("create", [4, 2]), [0]),
    (("add_candidate", 10, 0, 1, 3, [0, 1]), [0]),
    (("add_candidate", 9, 0, 2, 8, [0]), [1]),
    (("add_candidate", 5, 1, 1, 1, [2, 3, 4]), [2]),
    (("set_diversity", 3), [0]),
    (("value", [0, 1]), [64, 58, 2]),
    (("value", [0, 2]), [65, 50, 5]),
    (("set_creators", 5, 2), [0]),
    (("violation", [0, 2]), [5, 0, 1]),
    (("set_quota", 0, 0, 1), [0, 5]),
    (("violation", [0, 1]), [2, 0, 0]),
    (("forbid", 2, 1), [1]),
    (("allow", 1, 2), [0]),
    (("pin", 0, 2), [0]),
    (("unpin", 0), [2]),
    (("unpin", 0), [-33]),
    (("gain", 2, [1]), [19, 3, 1]),
]


class Examples(unittest.TestCase):
    def test_rows(self):
        results = run([call for call, _ in ROWS])
        for (call, expected), result in zip(ROWS, results):
            with self.subTest(call=call):
                self.assertEqual(result, expected)


if __name__ == "__main__":
    unittest.main()
