"""Which function answers which of the calls 11 to 26. None of them changes the page."""

from pageslates.bounds import bound, tune
from pageslates.composing import cover, greedy, improve
from pageslates.exact import best, cost_of, count_feasible, gap, worth
from pageslates.questions import candidate_info, exposure, gain, status, value, violation


def ask(page, number, numbers, row):
    """Answer the call of this number."""
    if number == 11:
        return value(page, row)
    if number == 12:
        return violation(page, row)
    if number == 13:
        return gain(page, numbers[0], row)
    if number == 14:
        return greedy(page)
    if number == 15:
        return improve(page, row)
    if number == 16:
        return best(page, numbers[0])
    if number == 17:
        return count_feasible(page)
    if number == 18:
        return bound(page, row)
    if number == 19:
        return tune(page, numbers[0], numbers[1], row)
    if number == 20:
        return gap(page, row)
    if number == 21:
        return exposure(page, row)
    if number == 22:
        return cover(page, numbers[0])
    if number == 23:
        return cost_of(page, numbers[0])
    if number == 24:
        return worth(page, numbers[0])
    if number == 25:
        return candidate_info(page, numbers[0])
    return status(page)
