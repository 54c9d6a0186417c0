"""The limits of the numbers that are handed in, and the error codes."""

NO_PAGE = -11
NO_CANDIDATE = -2
OUTSIDE_LIMITS = -22
ALREADY_THERE = -17
TOO_MANY_CANDIDATES = -28
NOT_THERE = -33

MOST_POSITIONS = 5
MOST_CANDIDATES = 9
GROUP_COUNT = 6
TOPIC_COUNT = 12
GREATEST_WEIGHT = 1000
GREATEST_SCORE = 10000
GREATEST_CREATOR = 1000
GREATEST_AGE = 10000
GREATEST_QUOTA = 5
GREATEST_LIMIT = 5
GREATEST_SPACING = 5
GREATEST_DIVERSITY = 100000
MOST_BEST = 5
LEAST_PRICE = -1000000000
GREATEST_PRICE = 1000000000
GREATEST_SIZE = 1000000
MOST_ROUNDS = 20
GREATEST_KIND = 5


def weights_fit(weights):
    """Tell whether the weights can be those of a page."""
    if len(weights) < 1 or len(weights) > MOST_POSITIONS:
        return False
    if not all([1 <= weight <= GREATEST_WEIGHT for weight in weights]):
        return False
    return all([later <= earlier for earlier, later in zip(weights, weights[1:])])


def topics_fit(topics):
    """Tell whether the topics can be those of a candidate."""
    # Different topics can't be more than there are, so their count needs no check.
    if not all([topic < TOPIC_COUNT for topic in topics]):
        return False
    return all([earlier < later for earlier, later in zip(topics, topics[1:])])


def candidate_fits(score, group, creator, age, topics):
    """Tell whether all that is told of a candidate is inside its limits."""
    if score > GREATEST_SCORE or group >= GROUP_COUNT:
        return False
    if creator > GREATEST_CREATOR or age > GREATEST_AGE:
        return False
    return topics_fit(topics)


def quota_fits(group, lower, upper):
    """Tell whether the group can have this quota."""
    return group < GROUP_COUNT and lower <= upper <= GREATEST_QUOTA


def creators_fit(limit, spacing):
    """Tell whether the limit of a creator and the spacing are inside their limits."""
    return 1 <= limit <= GREATEST_LIMIT and 1 <= spacing <= GREATEST_SPACING


def prices_fit(prices):
    """Tell whether these are prices, one for each group."""
    if len(prices) != GROUP_COUNT:
        return False
    return all([LEAST_PRICE <= price <= GREATEST_PRICE for price in prices])


def tuning_fits(size, rounds):
    """Tell whether prices can be tuned with this step size in so many rounds."""
    return 1 <= size <= GREATEST_SIZE and rounds <= MOST_ROUNDS
