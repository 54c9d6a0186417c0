"""The complete search: every feasible slate of a page, with its value."""

from pageslates.reckoning import coverage_of
from pageslates.violations import creators_of, members_fit


def choices_at(page, position):
    """List the candidates that the pins leave for a position."""
    pinned = page.pins[position]
    if pinned is None:
        return list(range(len(page.candidates)))
    return [pinned]


def lengthen(page, beginnings, position):
    """Put each candidate that keeps pin and spacing behind each beginning."""
    choices = choices_at(page, position)
    creators = creators_of(page, list(range(len(page.candidates))))
    parts = [page.weights[position] * candidate.score for candidate in page.candidates]
    first_close = max(0, position + 1 - page.spacing)
    longer = []
    for listed, relevance, members in beginnings:
        close = [creators[candidate] for candidate in listed[first_close:]]
        for candidate in choices:
            if candidate not in listed and creators[candidate] not in close:
                longer.append((listed + [candidate], relevance + parts[candidate], members | (1 << candidate)))
    return longer


def arrangements(page):
    """List, in lexicographic order, the slates that keep pins and spacing.

    Each comes with its relevance and with a number that has one bit for each of its candidates.
    """
    beginnings = [([], 0, 0)]
    for position in range(len(page.weights)):
        beginnings = lengthen(page, beginnings, position)
    return beginnings


def diversity_part(page, slate):
    """Tell what coverage adds to the value, or None if the slate's candidates don't fit together."""
    if not members_fit(page, slate):
        return None
    return page.diversity * coverage_of(page, slate)


def feasible_slates(page):
    """List value and slate of each feasible slate, in lexicographic order of the slates."""
    found = []
    # Many slates are made of the same candidates: what holds for these in any order is looked at once.
    parts = {}
    for slate, relevance, members in arrangements(page):
        if members not in parts:
            parts[members] = diversity_part(page, slate)
        part = parts[members]
        if part is not None:
            found.append((relevance + part, slate))
    return found
