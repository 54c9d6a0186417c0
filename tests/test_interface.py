"""How a list of calls is written and answered."""

import unittest

from helper import NAMES, add, encode, page, run
from pageslates.slates import answers

EVERY_CALL = [
    *page([4, 2], add(10, 0, 1, 3, [0, 1]), add(9, 0, 2, 8, [0])),
    ("set_score", 0, 7), ("set_quota", 1, 0, 4), ("set_creators", 4, 2), ("set_freshness", 9, 1),
    ("set_diversity", 6), ("forbid", 0, 1), ("allow", 0, 1), ("pin", 0, 1), ("value", [1, 0]),
    ("violation", [1, 0]), ("gain", 0, [1]), ("unpin", 0), ("greedy",), ("improve", [1, 0]), ("best", 5),
    ("count_feasible",), ("bound", [1, -1, 0, 0, 0, 0]), ("tune", 1, 20, [9, 0, -9, 0, 4, 0]), ("gap", [0] * 6),
    ("exposure", [0, 1]), ("cover", 9), ("cost_of", 5), ("worth", 1), ("candidate_info", 0), ("status",),
    ("best", 0), ("create", []), ("create", [3]), add(),
]


class Written(unittest.TestCase):
    def test_calls_number_by_number(self):
        calls = [
            0, 2, 4, 2,
            1, 10, 0, 1, 3, 2, 0, 1,
            1, 9, 0, 2, 8, 0,
            2, 0, 7,
            3, 1, 0, 4,
            4, 4, 2,
            5, 9, 1,
            6, 6,
            7, 0, 1,
            8, 0, 1,
            9, 0, 1,
            11, 2, 1, 0,
            12, 2, 1, 0,
            13, 0, 1, 1,
            10, 0,
            12, 0,
            0, 0,
        ]
        expected = [
            1, 0,
            1, 0,
            1, 1,
            1, 10,
            2, 0, 5,
            1, 0,
            1, 0,
            1, 0,
            1, 1,
            1, 0,
            1, 0,
            3, 62, 50, 2,
            1, 0,
            3, 26, 2, 1,
            1, 1,
            1, -22,
            1, -22,
        ]
        self.assertEqual(answers(calls), expected)

    def test_calls_14_to_26_number_by_number(self):
        calls = [
            0, 2, 4, 2,
            1, 10, 0, 1, 3, 2, 0, 1,
            1, 9, 1, 2, 8, 1, 0,
            1, 1, 0, 2, 8, 0,
            6, 3,
            14,
            15, 2, 1, 0,
            16, 2,
            17,
            18, 6, -1, 0, 0, 0, 0, 2,
            19, 5, 1, 6, 0, 10, 0, 0, -10, 0,
            20, 6, 0, 0, 0, 0, 0, 0,
            21, 2, 1, 0,
            22, 2,
            23, 5,
            24, 0,
            25, 0,
            25, 2,
            26,
            16, 6,
            20, 1, 7,
            21, 0,
        ]
        expected = [
            1, 0,
            1, 0,
            1, 1,
            1, 2,
            1, 0,
            5, 2, 1, 64, 0, 1,
            4, 1, 64, 0, 1,
            7, 2, 64, 0, 1, 62, 1, 0,
            1, 6,
            5, 0, 78, 62, 10, 2,
            8, 0, 91, 0, 5, 0, 0, -10, 0,
            4, 0, 64, 66, 2,
            13, 6, 1, 3, 2, 3, 0, 1, 0, 1, 0, 1, 0, 1,
            4, 2, 2, 0, 1,
            3, 64, 64, 0,
            3, 64, 42, 65,
            7, 10, 0, 1, 3, 2, 0, 1,
            5, 1, 0, 2, 8, 0,
            5, 2, 3, 0, 0, 3,
            1, -22,
            1, -22,
            1, -22,
        ]
        self.assertEqual(answers(calls), expected)

    def test_lowest_and_greatest_prices(self):
        for price, refused in ((-2147483648, True), (-1000000000, False), (1000000000, False), (2147483647, True)):
            bound = max(0, 30 * price)
            expected = [1, -22] if refused else [5, 0, bound, 0, bound, 0]
            told = answers([0, 1, 1, 18, 6] + [price] * 6 + [26])
            self.assertEqual(told, [1, 0, *expected, 5, 1, 0, 0, 0, 0])

    def test_violation_has_three_numbers(self):
        self.assertEqual(answers([0, 1, 5, 1, 1, 2, 3, 4, 0, 3, 2, 0, 0, 12, 1, 0])[-4:], [3, 2, 2, 0])
        self.assertEqual(answers([0, 1, 5, 1, 1, 2, 3, 4, 0, 12, 1, 0])[-2:], [1, 0])

    def test_single_call(self):
        self.assertEqual(answers([0, 1, 1]), [1, 0])
        self.assertEqual(answers([0, 0]), [1, -22])
        self.assertEqual(answers([10, 0]), [1, -11])
        self.assertEqual(answers([26]), [1, -11])

    def test_forms_of_all_calls(self):
        singles = (0, 4, 2, 3, 2, 2, 1, 2, 2, 2, 1, 0, 0, 1, 0, 0, 1, 0, 0, 2, 0, 0, 1, 1, 1, 1, 0)
        rows = (0, 1, 11, 12, 13, 15, 18, 19, 20, 21)
        for number in range(1, len(NAMES)):
            lengths = (0, 1, 12) if number in rows else (None,)
            for length in lengths:
                with self.subTest(number=number, length=length):
                    call = [number] + [0] * singles[number]
                    if length is not None:
                        call += [length] + [0] * length
                    self.assertEqual(answers(call + [0, 1, 1] + [6, 0]), [1, -11, 1, 0, 1, 0])

    def test_sixty_calls(self):
        calls = [("create", [1]), *[("set_diversity", weight) for weight in range(59)]]
        self.assertEqual(run(calls), [[0], [0], *[[weight] for weight in range(58)]])

    def test_longest_calls(self):
        calls = [("create", [1]), *[("add_candidate", 0, 0, 0, 0, list(range(12)))] * 59]
        self.assertEqual(run(calls), [[0], *[[number] for number in range(9)], *[[-28]] * 50])


class NothingKept(unittest.TestCase):
    def test_list_stays_as_it_was(self):
        calls = encode(EVERY_CALL)
        copied = list(calls)
        answers(calls)
        self.assertEqual(calls, copied)

    def test_same_answers_a_second_time(self):
        calls = encode(EVERY_CALL)
        first = answers(calls)
        self.assertEqual(answers(calls), first)
        self.assertEqual(answers(list(calls)), first)

    def test_answers_are_a_list_of_their_own(self):
        calls = encode(EVERY_CALL)
        first = answers(calls)
        copied = list(first)
        first.append(5)
        self.assertEqual(answers(calls), copied)

    def test_no_page_is_left_behind(self):
        run(EVERY_CALL)
        self.assertEqual(run([add(), ("unpin", 0), ("value", [0])]), [[-11], [-11], [-11]])

    def test_new_list_begins_with_a_new_page(self):
        run([*EVERY_CALL, ("set_diversity", 8), ("set_quota", 0, 1, 1), ("pin", 0, 0)])
        results = run([("create", [1]), ("set_diversity", 0), ("set_quota", 0, 0, 5), ("unpin", 0), add()])
        self.assertEqual(results, [[0], [0], [0, 5], [-33], [0]])

    def test_whole_numbers_alone(self):
        told = answers(encode(EVERY_CALL))
        self.assertIs(type(told), list)
        self.assertEqual({type(number) for number in told}, {int})


if __name__ == "__main__":
    unittest.main()
