"""The calls on one valley, as they are handed in and answered."""

from valleyvotes.asks import ask
from valleyvotes.changes import change, is_change
from valleyvotes.land import Valley, copy_of, is_many
from valleyvotes.refusals import WRONG

START = 0

# How many whole numbers stand behind each call's own number.
TAKES = (1, 3, 2, 2, 0, 1, 2, 2, 1, 0, 0, 2, 1, 0, 2, 2, 0)


class Session:
    """What is kept from call to call."""

    def __init__(self):
        self.valley = Valley(0)

    def begin(self, many):
        """vw_start: a new valley, if so many children may be in village 0."""
        if not is_many(many):
            return [WRONG]
        self.valley = Valley(many)
        return [0]

    def alter(self, number, given):
        """Makes a change, if it isn't refused."""
        # It's tried on a copy: a refused change leaves all as it was,
        # and the valley as it was ahead of the change stays whole, so that it can be gone back to.
        tried = copy_of(self.valley)
        told = change(number, tried, given)
        if told[0] >= 0:
            self.valley = tried
        return told

    def answer(self, number, given):
        """What is answered to one call."""
        if number == START:
            return self.begin(given[0])
        if is_change(number):
            return self.alter(number, given)
        return ask(number, self.valley, given)


def answers(calls):
    """All that is answered to the calls, each answer with how many numbers it has ahead of it."""
    session = Session()
    told = []
    place = 0
    while place < len(calls):
        number = calls[place]
        behind = place + 1 + TAKES[number]
        numbers = session.answer(number, calls[place + 1:behind])
        told.append(len(numbers))
        told.extend(numbers)
        place = behind
    return told
