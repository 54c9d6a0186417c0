"""The violations of a slate: each check tells kind, first and second number, or an empty list."""

from pageslates.limits import GROUP_COUNT


def pin_violation(page, listed):
    """Look for a position that has another candidate than the pinned one."""
    for position, candidate in enumerate(listed):
        pinned = page.pins[position]
        if pinned is not None and pinned != candidate:
            return [1, position, 0]
    return []


def group_sizes(page, listed):
    """Count the candidates of each group."""
    sizes = [0 for group in range(GROUP_COUNT)]
    for candidate in listed:
        sizes[page.candidates[candidate].group] += 1
    return sizes


def upper_quota_violation(page, listed):
    """Look for a group with too many candidates."""
    for group, size in enumerate(group_sizes(page, listed)):
        if size > page.quotas[group][1]:
            return [2, group, 0]
    return []


def lower_quota_violation(page, listed):
    """Look for a group with too few candidates."""
    for group, size in enumerate(group_sizes(page, listed)):
        if size < page.quotas[group][0]:
            return [3, group, 0]
    return []


def creators_of(page, listed):
    """List the creators, position by position."""
    return [page.candidates[candidate].creator for candidate in listed]


def limit_violation(page, listed):
    """Look for a creator with too many candidates."""
    creators = creators_of(page, listed)
    for creator in creators:
        if creators.count(creator) > page.limit:
            return [4, creator, 0]
    return []


def spacing_violation(page, listed):
    """Look for two candidates of one creator that stand too close together."""
    creators = creators_of(page, listed)
    for early in range(len(creators)):
        for late in range(early + 1, min(len(creators), early + page.spacing)):
            if creators[early] == creators[late]:
                return [5, early, late]
    return []


def forbidden_violation(page, listed):
    """Look for a forbidden pair, in the order in which the pairs were forbidden."""
    for smaller, greater in page.forbidden:
        if smaller in listed and greater in listed:
            return [6, smaller, greater]
    return []


def freshness_violation(page, listed):
    """Look whether fresh candidates are missing."""
    ages = [page.candidates[candidate].age for candidate in listed]
    fresh = len([age for age in ages if age <= page.fresh_age])
    if fresh < page.fresh_least:
        return [7, fresh, 0]
    return []


SLATE_CHECKS = (
    pin_violation,
    upper_quota_violation,
    lower_quota_violation,
    limit_violation,
    spacing_violation,
    forbidden_violation,
    freshness_violation,
)

# Candidates that are still to come can mend only the two checks that are left out here.
BEGINNING_CHECKS = (
    pin_violation,
    upper_quota_violation,
    limit_violation,
    spacing_violation,
    forbidden_violation,
)

# For these the order of the candidates doesn't matter.
MEMBER_CHECKS = (
    upper_quota_violation,
    lower_quota_violation,
    limit_violation,
    forbidden_violation,
    freshness_violation,
)


def first_violation(page, slate):
    """Tell the first violation of a slate, or an empty list if it is feasible."""
    for check in SLATE_CHECKS:
        found = check(page, slate)
        if found:
            return found
    return []


def is_feasible(page, slate):
    """Tell whether a slate has no violation."""
    return not first_violation(page, slate)


def members_fit(page, listed):
    """Tell whether the candidates of a slate, in whatever order, keep all but pins and spacing."""
    for check in MEMBER_CHECKS:
        if check(page, listed):
            return False
    return True


def is_possible(page, beginning):
    """Tell whether a beginning has no violation that stays, whatever follows."""
    for check in BEGINNING_CHECKS:
        if check(page, beginning):
            return False
    return True
