"""The calls 11 to 13, which ask about a slate or a beginning."""

from pageslates.limits import NO_CANDIDATE, OUTSIDE_LIMITS
from pageslates.reckoning import coverage_of, relevance_of, value_of
from pageslates.violations import first_violation, is_possible


def value(page, slate):
    """Tell value, relevance and coverage of a slate."""
    if not page.is_slate(slate):
        return [OUTSIDE_LIMITS]
    return [value_of(page, slate), relevance_of(page, slate), coverage_of(page, slate)]


def violation(page, slate):
    """Tell the first violation of a slate, or 0 alone if it is feasible."""
    if not page.is_slate(slate):
        return [OUTSIDE_LIMITS]
    found = first_violation(page, slate)
    if found:
        return found
    return [0]


def gain(page, candidate, beginning):
    """Tell what the candidate adds to a beginning, and whether the longer one is possible."""
    if not page.has_candidate(candidate):
        return [NO_CANDIDATE]
    longer = beginning + [candidate]
    # The longer one is a beginning just if the shorter one is, has room, and lacks the candidate.
    if not page.is_beginning(longer):
        return [OUTSIDE_LIMITS]
    more_value = value_of(page, longer) - value_of(page, beginning)
    more_topics = coverage_of(page, longer) - coverage_of(page, beginning)
    return [more_value, more_topics, int(is_possible(page, longer))]


def ask(page, number, numbers, row):
    """Answer the call of this number."""
    if number == 11:
        return value(page, row)
    if number == 12:
        return violation(page, row)
    if number == 13:
        return gain(page, numbers[0], row)
    raise NotImplementedError(f"call {number} is not built yet")
