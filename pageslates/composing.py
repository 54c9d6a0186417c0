"""The calls 14, 15 and 22, which compose slates and coverings step by step."""

from pageslates.limits import OUTSIDE_LIMITS
from pageslates.reckoning import coverage_of, value_of
from pageslates.violations import is_feasible, is_possible

MOST_CHANGES = 1000


def options_behind(page, beginning):
    """List the candidates that the greedy slate can take next."""
    options = []
    for candidate in range(len(page.candidates)):
        if candidate in beginning or page.is_pinned_elsewhere(candidate, len(beginning)):
            continue
        if is_possible(page, beginning + [candidate]):
            options.append(candidate)
    return options


def greedy_slate(page):
    """Fill position after position, as long as there are options."""
    listed = []
    while len(listed) < len(page.weights):
        longer = [listed + [candidate] for candidate in options_behind(page, listed)]
        if not longer:
            return listed
        # The first of several greatest ones has the smallest number.
        listed = max(longer, key=lambda beginning: value_of(page, beginning))
    return listed


def greedy(page):
    """Tell the greedy slate behind its length, whether it is feasible, and its value."""
    listed = greedy_slate(page)
    feasible = page.is_slate(listed) and is_feasible(page, listed)
    return [len(listed), int(feasible), value_of(page, listed)] + listed


def replaced(slate, position, candidate):
    """Copy a slate with another candidate at a position."""
    return slate[:position] + [candidate] + slate[position + 1:]


def exchanges(slate):
    """List the slates in which two positions have changed their candidates."""
    changed = []
    for early in range(len(slate)):
        for late in range(early + 1, len(slate)):
            changed.append(replaced(replaced(slate, early, slate[late]), late, slate[early]))
    return changed


def replacements(page, slate):
    """List the slates in which one position has a candidate from outside."""
    outside = [candidate for candidate in range(len(page.candidates)) if candidate not in slate]
    changed = []
    for position in range(len(slate)):
        changed.extend([replaced(slate, position, candidate) for candidate in outside])
    return changed


def first_better(page, slate):
    """Tell the slate behind the first change that makes it better, or None."""
    present = value_of(page, slate)
    for changed in exchanges(slate) + replacements(page, slate):
        if value_of(page, changed) > present and is_feasible(page, changed):
            return changed
    return None


def improve(page, slate):
    """Improve a feasible slate as long as a change makes it better."""
    if not page.is_slate(slate) or not is_feasible(page, slate):
        return [OUTSIDE_LIMITS]
    changes = 0
    improved = slate
    better = first_better(page, improved)
    while better is not None and changes < MOST_CHANGES:
        changes += 1
        improved = better
        better = first_better(page, improved)
    return [changes, value_of(page, improved)] + improved


def cover(page, count):
    """Choose candidates one after another, each for the greatest coverage."""
    chosen = []
    left = list(range(len(page.candidates)))
    while left and len(chosen) < count:
        longer = [chosen + [candidate] for candidate in left]
        # The first of several greatest ones has the smallest number.
        chosen = max(longer, key=lambda listed: coverage_of(page, listed))
        left.remove(chosen[-1])
    return [len(chosen), coverage_of(page, chosen)] + chosen
