"""The state that a list of calls works on."""

from pageslates.limits import GREATEST_LIMIT, GREATEST_QUOTA, GROUP_COUNT


class Candidate:
    """What is known of one candidate."""

    def __init__(self, score, group, creator, age, topics):
        self.score = score
        self.group = group
        self.creator = creator
        self.age = age
        self.topics = topics


class Page:
    """Positions, candidates and constraints."""

    def __init__(self, weights):
        self.weights = weights
        self.candidates = []
        self.quotas = [(0, GREATEST_QUOTA) for group in range(GROUP_COUNT)]
        self.limit = GREATEST_LIMIT
        self.spacing = 1
        self.fresh_age = 0
        self.fresh_least = 0
        self.diversity = 0
        self.forbidden = []
        self.pins = [None for weight in weights]

    def has_candidate(self, candidate):
        """Tell whether there is a candidate of this number."""
        return candidate < len(self.candidates)

    def has_position(self, position):
        """Tell whether there is a position of this number."""
        return position < len(self.weights)

    def is_pinned_elsewhere(self, candidate, position):
        """Tell whether the candidate is pinned at another position than this one."""
        return candidate in self.pins and self.pins[position] != candidate

    def is_beginning(self, listed):
        """Tell whether these are different candidates, and not more than positions."""
        if len(listed) > len(self.weights):
            return False
        if not all([self.has_candidate(candidate) for candidate in listed]):
            return False
        return len(set(listed)) == len(listed)

    def is_slate(self, listed):
        """Tell whether these are different candidates, one for each position."""
        return len(listed) == len(self.weights) and self.is_beginning(listed)

    def relaxed(self, kind):
        """Tell a page like this one without the constraints of this kind (5: of every kind)."""
        page = Page(self.weights)
        page.candidates = self.candidates
        page.diversity = self.diversity
        # A new page has no constraints, so those that stay are all that it needs. It is only read, so they are shared.
        if kind not in (0, 5):
            page.quotas = self.quotas
        if kind not in (1, 5):
            page.limit = self.limit
            page.spacing = self.spacing
        if kind not in (2, 5):
            page.fresh_age = self.fresh_age
            page.fresh_least = self.fresh_least
        if kind not in (3, 5):
            page.forbidden = self.forbidden
        if kind not in (4, 5):
            page.pins = self.pins
        return page
