"""The function that answers a list of calls."""

from pageslates.asking import ask
from pageslates.changes import change
from pageslates.limits import NO_PAGE, OUTSIDE_LIMITS, weights_fit
from pageslates.reading import split_calls
from pageslates.state import Page

CREATE = 0
LAST_CHANGE = 10


class Session:
    """What one list of calls works on: no page, until a create succeeds."""

    def __init__(self):
        self.page = None

    def create(self, weights):
        """Put a new page in the place of the present one, which stays if the weights don't fit."""
        if not weights_fit(weights):
            return [OUTSIDE_LIMITS]
        self.page = Page(weights)
        return [0]

    def answer(self, number, numbers, row):
        """Answer one call."""
        if number == CREATE:
            return self.create(row)
        if self.page is None:
            return [NO_PAGE]
        if number <= LAST_CHANGE:
            return change(self.page, number, numbers, row)
        return ask(self.page, number, numbers, row)


def answers(calls):
    """Answer the calls in order: for each how many numbers are answered, then these."""
    session = Session()
    told = []
    for number, numbers, row in split_calls(calls):
        answered = session.answer(number, numbers, row)
        told.append(len(answered))
        told.extend(answered)
    return told
