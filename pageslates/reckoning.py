"""What a slate or a beginning is worth, and how a share of it is written."""


def relevance_of(page, listed):
    """Add up weight times score over the positions."""
    return sum([weight * page.candidates[candidate].score for weight, candidate in zip(page.weights, listed)])


def coverage_of(page, listed):
    """Count the different topics of the candidates."""
    covered = {}
    for candidate in listed:
        for topic in page.candidates[candidate].topics:
            covered[topic] = True
    return len(covered)


def value_of(page, listed):
    """Add the relevance and the weighted coverage."""
    return relevance_of(page, listed) + page.diversity * coverage_of(page, listed)


def reduced(part, whole):
    """Write a fraction in its lowest terms."""
    divisor = whole
    rest = part
    while rest > 0:
        remainder = divisor % rest
        divisor = rest
        rest = remainder
    return [part // divisor, whole // divisor]
