"""The calls 11 to 13, 21, 25 and 26, which ask about a slate, a beginning, a candidate or the page."""

from pageslates.limits import GROUP_COUNT, NO_CANDIDATE, OUTSIDE_LIMITS
from pageslates.reckoning import coverage_of, reduced, relevance_of, value_of
from pageslates.violations import first_violation, is_possible


def value(page, slate):
    """Tell value, relevance and coverage of a slate."""
    if not page.is_slate(slate):
        return [OUTSIDE_LIMITS]
    return [value_of(page, slate), relevance_of(page, slate), coverage_of(page, slate)]


def violation(page, slate):
    """Tell the first violation of a slate, or 0 alone if it is feasible."""
    if not page.is_slate(slate):
        return [OUTSIDE_LIMITS]
    found = first_violation(page, slate)
    if found:
        return found
    return [0]


def gain(page, candidate, beginning):
    """Tell what the candidate adds to a beginning, and whether the longer one is possible."""
    if not page.has_candidate(candidate):
        return [NO_CANDIDATE]
    longer = beginning + [candidate]
    # The longer one is a beginning just if the shorter one is, has room, and lacks the candidate.
    if not page.is_beginning(longer):
        return [OUTSIDE_LIMITS]
    more_value = value_of(page, longer) - value_of(page, beginning)
    more_topics = coverage_of(page, longer) - coverage_of(page, beginning)
    return [more_value, more_topics, int(is_possible(page, longer))]


def exposure(page, slate):
    """Tell for each group which share of all weights its candidates have."""
    if not page.is_slate(slate):
        return [OUTSIDE_LIMITS]
    weights = [0 for group in range(GROUP_COUNT)]
    for weight, candidate in zip(page.weights, slate):
        weights[page.candidates[candidate].group] += weight
    told = [GROUP_COUNT]
    for weight in weights:
        told.extend(reduced(weight, sum(page.weights)))
    return told


def candidate_info(page, candidate):
    """Tell the data of a candidate."""
    if not page.has_candidate(candidate):
        return [NO_CANDIDATE]
    asked = page.candidates[candidate]
    return [asked.score, asked.group, asked.creator, asked.age, len(asked.topics)] + asked.topics


def status(page):
    """Count positions, candidates, forbidden pairs and pins, and tell the diversity weight."""
    pinned = len([candidate for candidate in page.pins if candidate is not None])
    return [len(page.weights), len(page.candidates), len(page.forbidden), pinned, page.diversity]
