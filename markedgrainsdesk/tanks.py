"""The calls on one session of tanks, and their answers."""

from markedgrainsdesk.courses import Courses

MOST_TANKS = 32
MOST_AMOUNT = 1048576
MOST_EVENTS = 256

WRONG = -22
FULL = -28
TOO_LITTLE = -33
CANNOT_BE = -74

START = 0
COME_IN = 1
POUR = 2
FOUND = 3
NARROW = 4
HAS = 5
MOST = 6

# How many numbers a call has, its own number among them.
LENGTHS = (2, 5, 4, 4, 4, 2, 2, 2)


class Session:
    """The tanks since the last start that was answered 0.

    Comings in, pourings and findings are events; comings has the way of each coming in, by
    its number among the events.
    """

    def __init__(self):
        self.tanks = 0
        self.events = 0
        self.comings = {}
        self.courses = Courses(0)

    def answer(self, call):
        """Carry out one call: its answer."""
        if call[0] == START:
            return self.start(call[1])
        if call[0] == COME_IN:
            return self.come_in(call[1], call[2], call[3], call[4])
        if call[0] == POUR:
            return self.pour(call[1], call[2], call[3])
        if call[0] == FOUND:
            return self.found(call[1], call[2], call[3])
        if call[0] == NARROW:
            return self.narrow(call[1], call[2], call[3])
        if call[0] == HAS:
            return self.has(call[1])
        if call[0] == MOST:
            return self.most(call[1])
        return self.least(call[1])

    def start(self, tanks):
        """Begin anew with so many empty tanks."""
        if tanks == 0 or tanks > MOST_TANKS:
            return WRONG
        self.tanks = tanks
        self.events = 0
        self.comings = {}
        self.courses = Courses(tanks)
        return 0

    def come_in(self, tank, amount, least, most):
        """So many grains come into the tank, from least to most of them marked."""
        if tank >= self.tanks or amount == 0 or amount > MOST_AMOUNT:
            return WRONG
        if least > most or most > amount:
            return WRONG
        if self.events == MOST_EVENTS:
            return FULL
        self.comings[self.events] = self.courses.come_in(tank, amount, least, most)
        return self.count_event()

    def pour(self, origin, goal, amount):
        """So many grains, whichever they are, go from one tank to the other."""
        if origin >= self.tanks or goal >= self.tanks or origin == goal or amount == 0:
            return WRONG
        if self.courses.amount(origin) < amount:
            return TOO_LITTLE
        if self.events == MOST_EVENTS:
            return FULL
        self.courses.pour(origin, goal, amount)
        return self.count_event()

    def found(self, tank, least, most):
        """From least to most marked grains are in the tank now."""
        if tank >= self.tanks or least > most:
            return WRONG
        if self.events == MOST_EVENTS:
            return FULL
        if not self.courses.found(tank, least, most):
            return CANNOT_BE
        return self.count_event()

    def narrow(self, which, least, most):
        """From least to most marked grains came in by the coming in of this number."""
        if which not in self.comings or least > most:
            return WRONG
        if not self.courses.narrow(self.comings[which], least, most):
            return CANNOT_BE
        return 0

    def has(self, tank):
        """How many grains are in the tank."""
        if tank >= self.tanks:
            return WRONG
        return self.courses.amount(tank)

    def most(self, chosen):
        """The most marked grains that may be in the chosen tanks together."""
        if not self.all_there(chosen):
            return WRONG
        return self.courses.most(chosen)

    def least(self, chosen):
        """The least marked grains that may be in the chosen tanks together."""
        if not self.all_there(chosen):
            return WRONG
        return self.courses.least(chosen)

    def all_there(self, chosen):
        """Whether there is a tank for each bit in chosen."""
        return chosen >> self.tanks == 0

    def count_event(self):
        """Count one more of what came in, was poured or found: how many there were before."""
        before = self.events
        self.events += 1
        return before


def answers(calls):
    """For each call, in order: how many numbers it answers, which is 1, and that number."""
    session = Session()
    given = []
    at = 0
    while at < len(calls):
        behind = at + LENGTHS[calls[at]]
        given.append(1)
        given.append(session.answer(calls[at:behind]))
        at = behind
    return given
