"""The calls on one valley, as they are handed in and answered."""

from valleyvotes.asks import ask
from valleyvotes.changes import change, is_change
from valleyvotes.land import Valley, copy_of, how_many_villages, is_many
from valleyvotes.refusals import NONE_THERE, WRONG

START = 0
BACK = 31
AGAIN = 32
STATE = 33

# How many whole numbers stand behind each call's own number.
TAKES = (
    1, 3, 2, 2, 0, 1, 2, 2, 1, 0, 0, 2, 1, 0, 2, 2, 0,
    1, 1, 1, 1, 1, 1, 1, 0, 1, 1, 1, 0, 1, 0, 0, 0, 0,
)

MOST_TAKEN_BACK = 20


class Session:
    """What is kept from call to call: the valley, and how it stood ahead of changes and behind them."""

    def __init__(self):
        self.valley = Valley(0)
        # How it stood ahead of each change that can be taken back, and behind each that can be done again;
        # in both lists the one that's gone to next stands last.
        self.earlier = []
        self.later = []

    def begin(self, many):
        """vw_start: a new valley, if so many children may be in village 0."""
        if not is_many(many):
            return [WRONG]
        self.valley = Valley(many)
        self.earlier = []
        self.later = []
        return [0]

    def alter(self, number, given):
        """Makes a change, if it isn't refused."""
        # It's tried on a copy: a refused change leaves all as it was,
        # and no valley that's kept to be gone to is ever changed itself.
        tried = copy_of(self.valley)
        told = change(number, tried, given)
        if told[0] >= 0:
            kept = self.earlier + [self.valley]
            self.earlier = kept[-MOST_TAKEN_BACK:]
            self.later = []
            self.valley = tried
        return told

    def take_back(self):
        """vw_back."""
        if len(self.earlier) == 0:
            return [NONE_THERE]
        self.later.append(self.valley)
        self.valley = self.earlier.pop()
        return [len(self.earlier)]

    def do_again(self):
        """vw_again."""
        if len(self.later) == 0:
            return [NONE_THERE]
        self.earlier.append(self.valley)
        self.valley = self.later.pop()
        return [len(self.later)]

    def state(self):
        """vw_state."""
        return [how_many_villages(self.valley), len(self.earlier), len(self.later)]

    def answer(self, number, given):
        """What is answered to one call."""
        if number == START:
            return self.begin(given[0])
        if number == BACK:
            return self.take_back()
        if number == AGAIN:
            return self.do_again()
        if number == STATE:
            return self.state()
        if is_change(number):
            return self.alter(number, given)
        return ask(number, self.valley, given)


def answers(calls):
    """All that is answered to the calls, each answer with how many numbers it has ahead of it."""
    session = Session()
    told = []
    place = 0
    while place < len(calls):
        number = calls[place]
        behind = place + 1 + TAKES[number]
        numbers = session.answer(number, calls[place + 1:behind])
        told.append(len(numbers))
        told.extend(numbers)
        place = behind
    return told
