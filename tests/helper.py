"""What the tests share: calls by their names, answers cut apart again, and a plain reading of the document."""

from copy import copy
from fractions import Fraction
from itertools import combinations, permutations

from pageslates.slates import answers

NAMES = (
    "create", "add_candidate", "set_score", "set_quota", "set_creators", "set_freshness", "set_diversity",
    "forbid", "allow", "pin", "unpin", "value", "violation", "gain", "greedy", "improve", "best",
    "count_feasible", "bound", "tune", "gap", "exposure", "cover", "cost_of", "worth", "candidate_info", "status",
)

GREATEST = 4294967295


def encode(calls):
    """Write calls such as ("gain", 2, [1]) one behind another, as the interface asks."""
    flat = []
    for name, *arguments in calls:
        flat.append(NAMES.index(name))
        for argument in arguments:
            if isinstance(argument, list):
                flat.append(len(argument))
                flat.extend(argument)
            else:
                flat.append(argument)
    return flat


def cut(answered):
    """Cut the answers of a list of calls into one list for each call."""
    results = []
    place = 0
    while place < len(answered):
        end = place + 1 + answered[place]
        assert answered[place] > 0 and end <= len(answered), answered
        results.append(answered[place + 1:end])
        place = end
    return results


def run(calls):
    """Answer calls, each with a list of its own."""
    results = cut(answers(encode(calls)))
    assert len(results) == len(calls), results
    return results


def last(calls):
    """Answer calls and tell the last answer."""
    return run(calls)[-1]


def add(score=0, group=0, creator=0, age=0, topics=None):
    """Tell a call of add_candidate by what matters of it."""
    return ("add_candidate", score, group, creator, age, topics or [])


def page(weights, *candidates):
    """Tell the calls for a page with these candidates."""
    return [("create", weights), *candidates]


def slates_of(candidates, positions):
    """List every slate, in lexicographic order."""
    return [list(slate) for slate in permutations(range(candidates), positions)]


class Numbers:
    """Numbers that look mixed, and are the same each time."""

    def __init__(self, seed):
        self.state = seed

    def below(self, end):
        self.state = (self.state * 6364136223846793005 + 1442695040888963407) & (2 ** 64 - 1)
        return (self.state >> 33) % end


class Reading:
    """A page as the document's terms tell it."""

    def __init__(self, seed, positions=None, count=None):
        numbers = Numbers(seed)
        positions = positions or 1 + numbers.below(4)
        count = count or positions + numbers.below(6 - positions)
        self.weights = sorted((1 + numbers.below(9) for _ in range(positions)), reverse=True)
        self.candidates = [
            (numbers.below(20), numbers.below(3), numbers.below(3), numbers.below(4),
             [topic for topic in range(12) if numbers.below(4) == 0])
            for _ in range(count)
        ]
        self.quotas = {group: (0, 5) for group in range(6)}
        for group in range(numbers.below(3)):
            lower = numbers.below(2)
            self.quotas[group] = (lower, lower + 1 + numbers.below(2))
        self.limit = 1 + numbers.below(4)
        self.spacing = 1 + numbers.below(3)
        self.fresh = (numbers.below(4), numbers.below(positions + 1) // 2)
        self.diversity = numbers.below(10)
        pairs = list(combinations(range(count), 2))
        self.forbidden = []
        for _ in range(min(len(pairs), numbers.below(4))):
            self.forbidden.append(pairs.pop(numbers.below(len(pairs))))
        self.pins = {}
        if numbers.below(3) == 0:
            self.pins[numbers.below(positions)] = numbers.below(count)

    def calls(self):
        calls = page(self.weights, *[add(*candidate) for candidate in self.candidates])
        calls += [("set_quota", group, *quota) for group, quota in self.quotas.items()]
        calls += [("set_creators", self.limit, self.spacing), ("set_freshness", *self.fresh)]
        calls += [("set_diversity", self.diversity)]
        calls += [("forbid", greater, smaller) for smaller, greater in self.forbidden]
        return calls + [("pin", position, candidate) for position, candidate in self.pins.items()]

    def told(self, listed, part):
        return [self.candidates[candidate][part] for candidate in listed]

    def value(self, listed):
        relevance = sum(map(lambda weight, score: weight * score, self.weights[:len(listed)], self.told(listed, 0)))
        coverage = len(set(sum(self.told(listed, 4), [])))
        return [relevance + self.diversity * coverage, relevance, coverage]

    def violations(self, listed):
        """List all violations of the table, each kind in its own order."""
        groups, creators = self.told(listed, 1), self.told(listed, 2)
        places = range(len(listed))
        found = [[1, place, 0] for place in places if self.pins.get(place, listed[place]) != listed[place]]
        found += [[2, group, 0] for group in range(6) if groups.count(group) > self.quotas[group][1]]
        found += [[3, group, 0] for group in range(6) if groups.count(group) < self.quotas[group][0]]
        found += [[4, creator, 0] for creator in creators if creators.count(creator) > self.limit]
        found += [[5, i, j] for i, j in combinations(places, 2)
                  if creators[i] == creators[j] and j - i < self.spacing]
        found += [[6, *pair] for pair in self.forbidden if set(pair) <= set(listed)]
        fresh = sum(age <= self.fresh[0] for age in self.told(listed, 3))
        return found + ([[7, fresh, 0]] if fresh < self.fresh[1] else [])

    def is_possible(self, listed):
        return not any(kind in (1, 2, 4, 5, 6) for kind, _, _ in self.violations(listed))

    def gain(self, candidate, listed):
        longer = [*listed, candidate]
        before, after = self.value(listed), self.value(longer)
        return [after[0] - before[0], after[2] - before[2], int(self.is_possible(longer))]

    def slates(self):
        return slates_of(len(self.candidates), len(self.weights))

    def feasible(self):
        return [slate for slate in self.slates() if not self.violations(slate)]

    def ordered(self):
        """List value and slate of all feasible slates, the best ones first."""
        pairs = sorted((-self.value(slate)[0], slate) for slate in self.feasible())
        return [(-negative, slate) for negative, slate in pairs]

    def greedy(self):
        listed = []
        for place in range(len(self.weights)):
            elsewhere = [candidate for pinned, candidate in self.pins.items() if pinned != place]
            options = [candidate for candidate in range(len(self.candidates))
                       if candidate not in listed + elsewhere and self.is_possible([*listed, candidate])]
            if not options:
                break
            listed.append(min(options, key=lambda candidate: (-self.value([*listed, candidate])[0], candidate)))
        feasible = len(listed) == len(self.weights) and not self.violations(listed)
        return [len(listed), int(feasible), self.value(listed)[0], *listed]

    def changed(self, slate):
        """Tell what all exchanges, then all replacements make of a slate."""
        for i, j in combinations(range(len(slate)), 2):
            copied = list(slate)
            copied[i], copied[j] = slate[j], slate[i]
            yield copied
        for place in range(len(slate)):
            for candidate in sorted(set(range(len(self.candidates))) - set(slate)):
                yield [candidate if place == other else slate[other] for other in range(len(slate))]

    def improve(self, slate):
        changes = 0
        while changes < 1000:
            better = [copied for copied in self.changed(slate)
                      if self.value(copied)[0] > self.value(slate)[0] and not self.violations(copied)]
            if not better:
                break
            slate = better[0]
            changes += 1
        return [changes, self.value(slate)[0], *slate]

    def bound(self, prices):
        positions = sum(
            max((weight * candidate[0] - prices[candidate[1]] for candidate in self.candidates), default=0)
            for weight in self.weights
        )
        quotas = sum(prices[group] * self.quotas[group][prices[group] >= 0] for group in range(6))
        lengths = sorted(len(candidate[4]) for candidate in self.candidates)[-len(self.weights):]
        topics = min(sum(lengths), len({topic for candidate in self.candidates for topic in candidate[4]}))
        return [0, positions + quotas + self.diversity * topics, positions, quotas, topics]

    def tune(self, size, rounds, prices):
        prices = list(prices)
        for group in list(range(6)) * rounds:
            for moved in (prices[group] + size, prices[group] - size):
                candidate = [*prices[:group], moved, *prices[group + 1:]]
                if self.bound(candidate)[1] < self.bound(prices)[1]:
                    prices = candidate
                    break
        return [0, self.bound(prices)[1], *prices]

    def exposure(self, slate):
        told = [6]
        for group in range(6):
            part = sum(weight for weight, own in zip(self.weights, self.told(slate, 1)) if own == group)
            share = Fraction(part, sum(self.weights))
            told += [share.numerator, share.denominator]
        return told

    def cover(self, count):
        chosen = []
        for _ in range(min(count, len(self.candidates))):
            left = [candidate for candidate in range(len(self.candidates)) if candidate not in chosen]
            chosen.append(min(left, key=lambda candidate: (-self.coverage([*chosen, candidate]), candidate)))
        return [len(chosen), self.coverage(chosen), *chosen]

    def coverage(self, listed):
        return len(set(sum(self.told(listed, 4), [])))

    def relaxed(self, kind):
        other = copy(self)
        if kind in (0, 5):
            other.quotas = {group: (0, 5) for group in range(6)}
        if kind in (1, 5):
            other.limit, other.spacing = 5, 1
        if kind in (2, 5):
            other.fresh = (0, 0)
        if kind in (3, 5):
            other.forbidden = []
        if kind in (4, 5):
            other.pins = {}
        return other

    def worth(self, candidate):
        if not self.ordered():
            return [-33]
        told = [self.ordered()[0][0]]
        for wanted in (False, True):
            values = [value for value, slate in self.ordered() if (candidate in slate) == wanted]
            told.append(values[0] + 1 if values else 0)
        return told

    def prices(self, seed):
        """Tell six prices that look mixed, some of them below 0."""
        numbers = Numbers(seed + 1000)
        reach = (1, 5, 60)[numbers.below(3)]
        return [numbers.below(2 * reach + 1) - reach for _ in range(6)]


def ask(calls, questions):
    """Ask in as many lists as are needed, none with more than 60 calls."""
    answered = []
    room = 60 - len(calls)
    for start in range(0, len(questions), room):
        answered += run([*calls, *questions[start:start + room]])[len(calls):]
    return answered
