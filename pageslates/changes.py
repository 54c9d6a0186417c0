"""The calls 1 to 10, which change a page. Each checks everything before it changes anything."""

from pageslates.limits import ALREADY_THERE, NO_CANDIDATE, NOT_THERE, OUTSIDE_LIMITS, TOO_MANY_CANDIDATES
from pageslates.limits import GREATEST_AGE, GREATEST_DIVERSITY, GREATEST_SCORE, MOST_CANDIDATES
from pageslates.limits import candidate_fits, creators_fit, quota_fits
from pageslates.state import Candidate


def add_candidate(page, score, group, creator, age, topics):
    """Add a candidate and tell its number."""
    if not candidate_fits(score, group, creator, age, topics):
        return [OUTSIDE_LIMITS]
    if len(page.candidates) == MOST_CANDIDATES:
        return [TOO_MANY_CANDIDATES]
    page.candidates.append(Candidate(score, group, creator, age, topics))
    return [len(page.candidates) - 1]


def set_score(page, candidate, score):
    """Change a score and tell the previous one."""
    if not page.has_candidate(candidate):
        return [NO_CANDIDATE]
    if score > GREATEST_SCORE:
        return [OUTSIDE_LIMITS]
    changed = page.candidates[candidate]
    old_score = changed.score
    changed.score = score
    return [old_score]


def set_quota(page, group, lower, upper):
    """Change the quota of a group and tell the previous one."""
    if not quota_fits(group, lower, upper):
        return [OUTSIDE_LIMITS]
    old_quota = page.quotas[group]
    page.quotas[group] = (lower, upper)
    return list(old_quota)


def set_creators(page, limit, spacing):
    """Set the limit of a creator and the spacing."""
    if not creators_fit(limit, spacing):
        return [OUTSIDE_LIMITS]
    page.limit = limit
    page.spacing = spacing
    return [0]


def set_freshness(page, age, least):
    """Set the fresh age and the required number of fresh candidates."""
    if age > GREATEST_AGE or least > len(page.weights):
        return [OUTSIDE_LIMITS]
    page.fresh_age = age
    page.fresh_least = least
    return [0]


def set_diversity(page, weight):
    """Change the diversity weight and tell the previous one."""
    if weight > GREATEST_DIVERSITY:
        return [OUTSIDE_LIMITS]
    old_weight = page.diversity
    page.diversity = weight
    return [old_weight]


def ordered_pair(first, second):
    """Write a pair the same way in whichever order it was told."""
    return (min(first, second), max(first, second))


def forbid(page, first, second):
    """Forbid a pair and tell how many are forbidden."""
    if not page.has_candidate(first) or not page.has_candidate(second):
        return [NO_CANDIDATE]
    if first == second:
        return [OUTSIDE_LIMITS]
    pair = ordered_pair(first, second)
    if pair in page.forbidden:
        return [ALREADY_THERE]
    page.forbidden.append(pair)
    return [len(page.forbidden)]


def allow(page, first, second):
    """Remove a forbidden pair and tell how many are forbidden."""
    if not page.has_candidate(first) or not page.has_candidate(second):
        return [NO_CANDIDATE]
    pair = ordered_pair(first, second)
    if pair not in page.forbidden:
        return [NOT_THERE]
    page.forbidden.remove(pair)
    return [len(page.forbidden)]


def pin(page, position, candidate):
    """Pin a candidate at a position, instead of one that was pinned there."""
    if not page.has_candidate(candidate):
        return [NO_CANDIDATE]
    if not page.has_position(position):
        return [OUTSIDE_LIMITS]
    if page.is_pinned_elsewhere(candidate, position):
        return [ALREADY_THERE]
    page.pins[position] = candidate
    return [0]


def unpin(page, position):
    """Remove a pin and tell its candidate."""
    if not page.has_position(position):
        return [OUTSIDE_LIMITS]
    pinned = page.pins[position]
    if pinned is None:
        return [NOT_THERE]
    page.pins[position] = None
    return [pinned]


def change(page, number, numbers, row):
    """Carry out the call of this number."""
    if number == 1:
        return add_candidate(page, numbers[0], numbers[1], numbers[2], numbers[3], row)
    if number == 2:
        return set_score(page, numbers[0], numbers[1])
    if number == 3:
        return set_quota(page, numbers[0], numbers[1], numbers[2])
    if number == 4:
        return set_creators(page, numbers[0], numbers[1])
    if number == 5:
        return set_freshness(page, numbers[0], numbers[1])
    if number == 6:
        return set_diversity(page, numbers[0])
    if number == 7:
        return forbid(page, numbers[0], numbers[1])
    if number == 8:
        return allow(page, numbers[0], numbers[1])
    if number == 9:
        return pin(page, numbers[0], numbers[1])
    return unpin(page, numbers[0])
