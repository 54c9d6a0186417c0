"""The calls 18 and 19: upper bounds from prices, and the tuning of prices."""

from pageslates.limits import GROUP_COUNT, OUTSIDE_LIMITS, prices_fit, tuning_fits
from pageslates.reckoning import coverage_of


def position_part(page, prices):
    """Add up, over the positions, the most that a candidate brings beyond its price."""
    if not page.candidates:
        return 0
    total = 0
    for weight in page.weights:
        total += max([weight * candidate.score - prices[candidate.group] for candidate in page.candidates])
    return total


def quota_part(page, prices):
    """Add up the prices of the groups, times the quota that makes each the greatest."""
    total = 0
    for price, quota in zip(prices, page.quotas):
        if price < 0:
            total += price * quota[0]
        else:
            total += price * quota[1]
    return total


def coverage_bound(page):
    """Tell a number of topics that no slate goes beyond."""
    topic_counts = sorted([len(candidate.topics) for candidate in page.candidates], reverse=True)
    together = coverage_of(page, list(range(len(page.candidates))))
    return min(together, sum(topic_counts[:len(page.weights)]))


def bound_of(page, prices):
    """Tell the bound for some prices."""
    return position_part(page, prices) + quota_part(page, prices) + page.diversity * coverage_bound(page)


def bound(page, prices):
    """Tell the bound for some prices, with its parts."""
    if not prices_fit(prices):
        return [OUTSIDE_LIMITS]
    return [0, bound_of(page, prices), position_part(page, prices), quota_part(page, prices), coverage_bound(page)]


def tuned_group(page, prices, group, size):
    """Move the price of a group up or else down, if that makes the bound smaller."""
    present = bound_of(page, prices)
    for step in (size, -size):
        moved = list(prices)
        moved[group] += step
        if bound_of(page, moved) < present:
            return moved
    return prices


def tune(page, size, rounds, prices):
    """Tune prices round after round, and tell the bound that is reached."""
    if not tuning_fits(size, rounds) or not prices_fit(prices):
        return [OUTSIDE_LIMITS]
    tuned = prices
    for turn in range(rounds):
        for group in range(GROUP_COUNT):
            tuned = tuned_group(page, tuned, group, size)
    return [0, bound_of(page, tuned)] + tuned
