"""The calls 14 to 26 on many pages, compared with the plain reading of the document."""

import unittest

from helper import Reading, ask

PAGES = 120

# More positions and candidates than the small pages have; the last has fewer candidates than positions.
LARGE = [Reading(500 + size, *size_of) for size, size_of in enumerate(((5, 6), (4, 7), (3, 9), (5, 5), (1, 9), (5, 4)))]
READINGS = [Reading(seed) for seed in range(PAGES)] + LARGE


class PlainSearch(unittest.TestCase):
    def compare(self, questions_of, expected_of):
        """Compare all answers to the questions on each page, and count the different ones."""
        seen = set()
        for number, reading in enumerate(READINGS):
            questions = questions_of(reading)
            for question, answer in zip(questions, ask(reading.calls(), questions)):
                self.assertEqual(answer, expected_of(reading, *question[1:]), (number, question))
                seen.add(tuple(answer))
        return seen

    def test_greedy(self):
        seen = self.compare(lambda reading: [("greedy",)], lambda reading: reading.greedy())
        self.assertGreaterEqual({answer[1] for answer in seen}, {0, 1})
        self.assertTrue([answer for answer in seen if answer[0] == 1 and answer[1] == 0])

    def test_improve(self):
        def expected(reading, slate):
            return [-22] if reading.violations(slate) else reading.improve(slate)

        seen = self.compare(lambda reading: [("improve", slate) for slate in reading.slates()[::7]], expected)
        self.assertGreaterEqual({answer[0] for answer in seen}, {-22, 0, 1, 2, 3, 4})

    def test_best_and_count(self):
        def expected(reading, count):
            first = reading.ordered()[:count]
            told = [len(first)]
            for value, slate in first:
                told += [value, *slate]
            return told if first else [-33]

        seen = self.compare(lambda reading: [("best", count) for count in range(1, 6)], expected)
        self.assertGreaterEqual({answer[0] for answer in seen}, {-33, 1, 2, 3, 4, 5})
        seen = self.compare(lambda reading: [("count_feasible",)], lambda reading: [len(reading.feasible())])
        self.assertGreaterEqual(seen, {(0,), (1,), (2,)})

    def test_bound(self):
        def questions(reading):
            return [("bound", reading.prices(seed)) for seed in range(5)] + [("bound", [0] * 6)]

        self.compare(questions, Reading.bound)

    def test_tune(self):
        def questions(reading):
            return [("tune", size, rounds, reading.prices(size)) for size in (1, 7, 40) for rounds in (0, 1, 2, 5)]

        self.compare(questions, Reading.tune)

    def test_gap(self):
        def expected(reading, prices):
            ordered = reading.ordered()
            bound = reading.bound(prices)[1]
            return [0, ordered[0][0], bound, bound - ordered[0][0]] if ordered else [-33]

        self.compare(lambda reading: [("gap", reading.prices(seed)) for seed in range(2)], expected)

    def test_exposure(self):
        self.compare(lambda reading: [("exposure", slate) for slate in reading.slates()[::5]], Reading.exposure)

    def test_cover(self):
        self.compare(lambda reading: [("cover", count) for count in range(11)], Reading.cover)

    def test_cost_of(self):
        def expected(reading, kind):
            ordered = reading.ordered()
            if not ordered:
                return [-33]
            relaxed = reading.relaxed(kind).ordered()[0][0]
            return [ordered[0][0], relaxed, relaxed - ordered[0][0]]

        self.compare(lambda reading: [("cost_of", kind) for kind in range(6)], expected)

    def test_worth(self):
        seen = self.compare(
            lambda reading: [("worth", candidate) for candidate in range(min(4, len(reading.candidates)))],
            Reading.worth,
        )
        self.assertTrue([answer for answer in seen if answer[1:2] == (0,)])
        self.assertTrue([answer for answer in seen if answer[2:] == (0,)])
        self.assertTrue([answer for answer in seen if 0 not in answer[1:]])

    def test_candidate_info_and_status(self):
        def info(reading, candidate):
            score, group, creator, age, topics = reading.candidates[candidate]
            return [score, group, creator, age, len(topics), *topics]

        def status(reading):
            return [len(reading.weights), len(reading.candidates), len(reading.forbidden), len(reading.pins),
                    reading.diversity]

        self.compare(lambda reading: [("candidate_info", number) for number in range(len(reading.candidates))], info)
        self.compare(lambda reading: [("status",)], status)


if __name__ == "__main__":
    unittest.main()
