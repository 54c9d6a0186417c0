"""Many small pages, compared with a reading of the document that is written apart from the program."""

import unittest
from itertools import permutations

from helper import Reading, ask, slates_of


class PlainReading(unittest.TestCase):
    PAGES = 120

    def test_value_and_violation(self):
        kinds = set()
        for seed in range(self.PAGES):
            reading = Reading(seed)
            slates = slates_of(len(reading.candidates), len(reading.weights))
            values = ask(reading.calls(), [("value", slate) for slate in slates])
            violations = ask(reading.calls(), [("violation", slate) for slate in slates])
            for slate, value, violation in zip(slates, values, violations):
                self.assertEqual(value, reading.value(slate), (seed, slate))
                self.assertEqual(violation, (reading.violations(slate) or [[0]])[0], (seed, slate))
                kinds.add(violation[0])
        self.assertEqual(kinds, set(range(8)))

    def test_gain(self):
        for seed in range(self.PAGES):
            reading = Reading(seed)
            longer = [listed for length in range(1, len(reading.weights) + 1)
                      for listed in slates_of(len(reading.candidates), length)]
            gains = ask(reading.calls(), [("gain", listed[-1], listed[:-1]) for listed in longer])
            for listed, gain in zip(longer, gains):
                self.assertEqual(gain, reading.gain(listed[-1], listed[:-1]), (seed, listed))

    def test_impossible_beginnings_lead_to_no_feasible_slate(self):
        impossible = 0
        for seed in range(self.PAGES):
            reading = Reading(seed)
            count, positions = len(reading.candidates), len(reading.weights)
            slates = slates_of(count, positions)
            violations = ask(reading.calls(), [("violation", slate) for slate in slates])
            feasible = [slate for slate, violation in zip(slates, violations) if violation == [0]]
            for length in range(1, positions + 1):
                longer = [list(listed) for listed in permutations(range(count), length)]
                gains = ask(reading.calls(), [("gain", listed[-1], listed[:-1]) for listed in longer])
                for listed, gain in zip(longer, gains):
                    if gain[2] == 0:
                        impossible += 1
                        self.assertNotIn(listed, [slate[:length] for slate in feasible], seed)
        self.assertGreater(impossible, 0)


if __name__ == "__main__":
    unittest.main()
