"""The calls 16, 17, 20, 23 and 24, which go through all feasible slates."""

from pageslates.bounds import bound_of
from pageslates.limits import GREATEST_KIND, MOST_BEST, NO_CANDIDATE, NOT_THERE, OUTSIDE_LIMITS, prices_fit
from pageslates.searching import feasible_slates


def greatest_value(found):
    """Tell the greatest value of these slates, or -1 if there are none."""
    return max([reached for reached, slate in found], default=-1)


def best(page, count):
    """Tell the first slates in the order of the best ones, each behind its value."""
    if count < 1 or count > MOST_BEST:
        return [OUTSIDE_LIMITS]
    found = feasible_slates(page)
    if not found:
        return [NOT_THERE]
    # They are found in lexicographic order, which sorting keeps for slates with the same value.
    first = sorted(found, key=lambda pair: -pair[0])[:count]
    told = [len(first)]
    for reached, slate in first:
        told.append(reached)
        told.extend(slate)
    return told


def count_feasible(page):
    """Count the feasible slates."""
    return [len(feasible_slates(page))]


def gap(page, prices):
    """Tell how far the greatest value is from the bound."""
    if not prices_fit(prices):
        return [OUTSIDE_LIMITS]
    found = feasible_slates(page)
    if not found:
        return [NOT_THERE]
    reached = greatest_value(found)
    limit = bound_of(page, prices)
    return [0, reached, limit, limit - reached]


def cost_of(page, kind):
    """Tell what the constraints of a kind cost."""
    if kind > GREATEST_KIND:
        return [OUTSIDE_LIMITS]
    found = feasible_slates(page)
    if not found:
        return [NOT_THERE]
    reached = greatest_value(found)
    relaxed = greatest_value(feasible_slates(page.relaxed(kind)))
    return [reached, relaxed, relaxed - reached]


def worth(page, candidate):
    """Tell the greatest value, and one more than the greatest ones without and with a candidate."""
    if not page.has_candidate(candidate):
        return [NO_CANDIDATE]
    found = feasible_slates(page)
    if not found:
        return [NOT_THERE]
    without = [pair for pair in found if candidate not in pair[1]]
    including = [pair for pair in found if candidate in pair[1]]
    return [greatest_value(found), greatest_value(without) + 1, greatest_value(including) + 1]
