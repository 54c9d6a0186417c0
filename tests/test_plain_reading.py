"""Many small pages, compared with a reading of the document that is written apart from the program."""

import unittest
from itertools import combinations, permutations

from helper import add, page, run, slates_of


class Numbers:
    """Numbers that look mixed, and are the same each time."""

    def __init__(self, seed):
        self.state = seed

    def below(self, end):
        self.state = (self.state * 6364136223846793005 + 1442695040888963407) & (2 ** 64 - 1)
        return (self.state >> 33) % end


class Reading:
    """A page as the document's terms tell it."""

    def __init__(self, seed):
        numbers = Numbers(seed)
        positions = 1 + numbers.below(4)
        count = positions + numbers.below(6 - positions)
        self.weights = sorted((1 + numbers.below(9) for _ in range(positions)), reverse=True)
        self.candidates = [
            (numbers.below(20), numbers.below(3), numbers.below(3), numbers.below(4),
             [topic for topic in range(12) if numbers.below(4) == 0])
            for _ in range(count)
        ]
        self.quotas = {group: (0, 5) for group in range(6)}
        for group in range(numbers.below(3)):
            lower = numbers.below(2)
            self.quotas[group] = (lower, lower + 1 + numbers.below(2))
        self.limit = 1 + numbers.below(4)
        self.spacing = 1 + numbers.below(3)
        self.fresh = (numbers.below(4), numbers.below(positions + 1) // 2)
        self.diversity = numbers.below(10)
        pairs = list(combinations(range(count), 2))
        self.forbidden = []
        for _ in range(min(len(pairs), numbers.below(4))):
            self.forbidden.append(pairs.pop(numbers.below(len(pairs))))
        self.pins = {}
        if numbers.below(3) == 0:
            self.pins[numbers.below(positions)] = numbers.below(count)

    def calls(self):
        calls = page(self.weights, *[add(*candidate) for candidate in self.candidates])
        calls += [("set_quota", group, *quota) for group, quota in self.quotas.items()]
        calls += [("set_creators", self.limit, self.spacing), ("set_freshness", *self.fresh)]
        calls += [("set_diversity", self.diversity)]
        calls += [("forbid", greater, smaller) for smaller, greater in self.forbidden]
        return calls + [("pin", position, candidate) for position, candidate in self.pins.items()]

    def told(self, listed, part):
        return [self.candidates[candidate][part] for candidate in listed]

    def value(self, listed):
        relevance = sum(map(lambda weight, score: weight * score, self.weights[:len(listed)], self.told(listed, 0)))
        coverage = len(set(sum(self.told(listed, 4), [])))
        return [relevance + self.diversity * coverage, relevance, coverage]

    def violations(self, listed):
        """List all violations of the table, each kind in its own order."""
        groups, creators = self.told(listed, 1), self.told(listed, 2)
        places = range(len(listed))
        found = [[1, place, 0] for place in places if self.pins.get(place, listed[place]) != listed[place]]
        found += [[2, group, 0] for group in range(6) if groups.count(group) > self.quotas[group][1]]
        found += [[3, group, 0] for group in range(6) if groups.count(group) < self.quotas[group][0]]
        found += [[4, creator, 0] for creator in creators if creators.count(creator) > self.limit]
        found += [[5, i, j] for i, j in combinations(places, 2)
                  if creators[i] == creators[j] and j - i < self.spacing]
        found += [[6, *pair] for pair in self.forbidden if set(pair) <= set(listed)]
        fresh = sum(age <= self.fresh[0] for age in self.told(listed, 3))
        return found + ([[7, fresh, 0]] if fresh < self.fresh[1] else [])

    def is_possible(self, listed):
        return not any(kind in (1, 2, 4, 5, 6) for kind, _, _ in self.violations(listed))

    def gain(self, candidate, listed):
        longer = [*listed, candidate]
        before, after = self.value(listed), self.value(longer)
        return [after[0] - before[0], after[2] - before[2], int(self.is_possible(longer))]


def ask(calls, questions):
    """Ask in as many lists as are needed, none with more than 60 calls."""
    answered = []
    room = 60 - len(calls)
    for start in range(0, len(questions), room):
        answered += run([*calls, *questions[start:start + room]])[len(calls):]
    return answered


class PlainReading(unittest.TestCase):
    PAGES = 120

    def test_value_and_violation(self):
        kinds = set()
        for seed in range(self.PAGES):
            reading = Reading(seed)
            slates = slates_of(len(reading.candidates), len(reading.weights))
            values = ask(reading.calls(), [("value", slate) for slate in slates])
            violations = ask(reading.calls(), [("violation", slate) for slate in slates])
            for slate, value, violation in zip(slates, values, violations):
                self.assertEqual(value, reading.value(slate), (seed, slate))
                self.assertEqual(violation, (reading.violations(slate) or [[0]])[0], (seed, slate))
                kinds.add(violation[0])
        self.assertEqual(kinds, set(range(8)))

    def test_gain(self):
        for seed in range(self.PAGES):
            reading = Reading(seed)
            longer = [listed for length in range(1, len(reading.weights) + 1)
                      for listed in slates_of(len(reading.candidates), length)]
            gains = ask(reading.calls(), [("gain", listed[-1], listed[:-1]) for listed in longer])
            for listed, gain in zip(longer, gains):
                self.assertEqual(gain, reading.gain(listed[-1], listed[:-1]), (seed, listed))

    def test_impossible_beginnings_lead_to_no_feasible_slate(self):
        impossible = 0
        for seed in range(self.PAGES):
            reading = Reading(seed)
            count, positions = len(reading.candidates), len(reading.weights)
            slates = slates_of(count, positions)
            violations = ask(reading.calls(), [("violation", slate) for slate in slates])
            feasible = [slate for slate, violation in zip(slates, violations) if violation == [0]]
            for length in range(1, positions + 1):
                longer = [list(listed) for listed in permutations(range(count), length)]
                gains = ask(reading.calls(), [("gain", listed[-1], listed[:-1]) for listed in longer])
                for listed, gain in zip(longer, gains):
                    if gain[2] == 0:
                        impossible += 1
                        self.assertNotIn(listed, [slate[:length] for slate in feasible], seed)
        self.assertGreater(impossible, 0)


if __name__ == "__main__":
    unittest.main()
