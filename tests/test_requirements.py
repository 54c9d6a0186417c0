"""The document's requirements 1 to 7 on drawn pages, judged by the program's own answers."""

import unittest
from itertools import combinations

from helper import Reading, ask, slates_of


def asking_for_fresh(seed):
    """Draw a page on which one more candidate has to be fresh."""
    reading = Reading(seed)
    reading.fresh = (1, min(reading.fresh[1] + 1, len(reading.weights)))
    return reading


# Small pages, and some with more candidates than that.
READINGS = [Reading(seed) for seed in range(200, 280)] + [asking_for_fresh(seed) for seed in range(320, 350)] + [
    Reading(seed, positions, count) for seed, positions, count in ((301, 3, 7), (302, 2, 9), (303, 4, 6), (304, 5, 6))
]


def slates_and_values(reading):
    """Tell the feasible slates in lexicographic order, each with its value."""
    slates = reading.slates()
    violations = ask(reading.calls(), [("violation", slate) for slate in slates])
    feasible = [slate for slate, violation in zip(slates, violations) if violation == [0]]
    values = ask(reading.calls(), [("value", slate) for slate in feasible])
    return [(value[0], slate) for value, slate in zip(values, feasible)]


FEASIBLE = [slates_and_values(reading) for reading in READINGS]
BOTH = list(zip(READINGS, FEASIBLE))


def changes_of(slate, candidates):
    """Tell everything that one exchange or one replacement makes of a slate."""
    for early, late in combinations(range(len(slate)), 2):
        places = {early: slate[late], late: slate[early]}
        yield [places.get(place, candidate) for place, candidate in enumerate(slate)]
    for place in range(len(slate)):
        for candidate in range(candidates):
            if candidate not in slate:
                yield [*slate[:place], candidate, *slate[place + 1:]]


class Requirements(unittest.TestCase):
    def test_pages_are_of_all_kinds(self):
        counts = {min(len(feasible), 6) for feasible in FEASIBLE}
        self.assertGreaterEqual(counts, {0, 1, 2, 6})

    def test_best_slates_are_best(self):
        for reading, feasible in BOTH:
            best, = ask(reading.calls(), [("best", 1)])
            if not feasible:
                self.assertEqual(best, [-33])
                continue
            self.assertIn((best[1], best[2:]), feasible)
            self.assertEqual(best[1], max(value for value, _ in feasible))

    def test_order_of_the_best_slates(self):
        for reading, feasible in BOTH:
            ordered = sorted(feasible, key=lambda pair: (-pair[0], pair[1]))[:5]
            expected = [len(ordered)]
            for value, slate in ordered:
                expected += [value, *slate]
            self.assertEqual(ask(reading.calls(), [("best", 5)]), [expected if ordered else [-33]])
            self.assertEqual(ask(reading.calls(), [("count_feasible",)]), [[len(feasible)]])

    def test_bounds_are_certificates(self):
        for reading, feasible in BOTH:
            questions = [("bound", reading.prices(seed)) for seed in range(12)]
            questions += [("bound", [price] * 6) for price in (-1000000000, -1, 0, 1, 1000000000)]
            for question, told in zip(questions, ask(reading.calls(), questions)):
                self.assertEqual(told[1], told[2] + told[3] + reading.diversity * told[4])
                for value, slate in feasible:
                    self.assertLessEqual(value, told[1], (question, slate))

    def test_gap_is_between_best_slate_and_bound(self):
        for reading, feasible in BOTH:
            for seed in range(4):
                prices = reading.prices(seed)
                bound, best, gap = ask(reading.calls(), [("bound", prices), ("best", 1), ("gap", prices)])
                self.assertEqual(gap, [0, best[1], bound[1], bound[1] - best[1]] if feasible else [-33])
                self.assertGreaterEqual(gap[-1], 0 if feasible else -33)

    def test_tuning_never_makes_the_bound_greater(self):
        smaller = 0
        for reading, feasible in BOTH:
            for seed in range(6):
                prices = reading.prices(seed)
                questions = [("bound", prices)]
                questions += [("tune", (1, 6, 50)[seed % 3], rounds, prices) for rounds in range(6)]
                bound, *tuned = ask(reading.calls(), questions)
                self.assertEqual(tuned[0], [0, bound[1], *prices])
                for earlier, later in zip(tuned, tuned[1:]):
                    self.assertLessEqual(later[1], earlier[1])
                    smaller += later[1] < earlier[1]
                again = ask(reading.calls(), [("bound", told[2:]) for told in tuned])
                self.assertEqual([told[1] for told in again], [told[1] for told in tuned])
                for value, slate in feasible:
                    self.assertLessEqual(value, tuned[-1][1], slate)
        self.assertGreater(smaller, 100)

    def test_rounds_one_by_one_are_the_same_as_together(self):
        for reading in READINGS:
            prices = reading.prices(3)
            together, = ask(reading.calls(), [("tune", 4, 3, prices)])
            for _ in range(3):
                told, = ask(reading.calls(), [("tune", 4, 1, prices)])
                prices = told[2:]
            self.assertEqual(told, together)

    def test_improved_slates(self):
        changed_slates = 0
        for reading, feasible in BOTH:
            values = {tuple(slate): value for value, slate in feasible}
            chosen = feasible[::max(1, len(feasible) // 12)]
            told = ask(reading.calls(), [("improve", slate) for _, slate in chosen])
            for (value, slate), (changes, reached, *improved) in zip(chosen, told):
                self.assertEqual(values.get(tuple(improved)), reached)
                self.assertGreaterEqual(reached, value)
                self.assertEqual(changes == 0, improved == slate)
                self.assertLess(changes, 1000)
                for other in changes_of(improved, len(reading.candidates)):
                    self.assertLessEqual(values.get(tuple(other), -1), reached, (slate, improved, other))
                changed_slates += changes > 0
        self.assertGreater(changed_slates, 100)

    def test_slates_that_are_not_feasible_are_not_improved(self):
        for reading, feasible in BOTH:
            known = [slate for _, slate in feasible]
            others = [slate for slate in reading.slates() if slate not in known][:20]
            self.assertEqual(ask(reading.calls(), [("improve", slate) for slate in others]), [[-22]] * len(others))

    def test_part_that_covering_reaches(self):
        for reading in READINGS:
            topics = [set(candidate[4]) for candidate in reading.candidates]
            for size in range(1, len(topics) + 1):
                told, = ask(reading.calls(), [("cover", size)])
                greatest = max(len(set().union(*group)) for group in combinations(topics, size))
                self.assertEqual(told[0], size)
                self.assertEqual(len(set(told[2:])), size)
                self.assertEqual(told[1], len(set().union(*[topics[candidate] for candidate in told[2:]])))
                # At least the part 1 - (1 - 1/size) ** size, written in whole numbers.
                self.assertGreaterEqual(told[1] * size ** size, greatest * (size ** size - (size - 1) ** size))

    def test_without_constraints_the_value_is_never_smaller(self):
        dearer = [0] * 6
        for reading, feasible in BOTH:
            costs = ask(reading.calls(), [("cost_of", kind) for kind in range(6)])
            if not feasible:
                self.assertEqual(costs, [[-33]] * 6)
                continue
            for kind, (value, relaxed, difference) in enumerate(costs):
                self.assertEqual(value, max(value for value, _ in feasible))
                self.assertEqual(difference, relaxed - value)
                self.assertGreaterEqual(difference, 0)
                self.assertLessEqual(relaxed, costs[5][1])
                dearer[kind] += difference > 0
        self.assertGreater(min(dearer), 0, dearer)

    def test_worth_of_each_candidate(self):
        for reading, feasible in BOTH:
            numbers = range(len(reading.candidates))
            for number, told in zip(numbers, ask(reading.calls(), [("worth", number) for number in numbers])):
                if not feasible:
                    self.assertEqual(told, [-33])
                    continue
                lacking = max((value + 1 for value, slate in feasible if number not in slate), default=0)
                having = max((value + 1 for value, slate in feasible if number in slate), default=0)
                self.assertEqual(told, [max(lacking, having) - 1, lacking, having])

    def test_no_feasible_slate_begins_with_what_is_not_possible(self):
        impossible = 0
        for reading, feasible in BOTH:
            for length in range(1, min(3, len(reading.weights)) + 1):
                listed = slates_of(len(reading.candidates), length)[::3]
                gains = ask(reading.calls(), [("gain", beginning[-1], beginning[:-1]) for beginning in listed])
                beginnings = [slate[:length] for _, slate in feasible]
                for beginning, gain in zip(listed, gains):
                    if gain[2] == 0:
                        impossible += 1
                        self.assertNotIn(beginning, beginnings)
        self.assertGreater(impossible, 100)

    def test_greedy_slate_is_no_better_than_the_best(self):
        for reading, feasible in BOTH:
            (length, is_feasible, value, *listed), = ask(reading.calls(), [("greedy",)])
            self.assertEqual(len(listed), length)
            self.assertEqual(bool(is_feasible), (value, listed) in feasible)
            if is_feasible:
                self.assertLessEqual(value, max(value for value, _ in feasible))


if __name__ == "__main__":
    unittest.main()
