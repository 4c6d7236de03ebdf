"""The calls on one session of tanks, and their answers."""

from markedgrainsdesk.courses import Courses

MOST_TANKS = 32
MOST_AMOUNT = 1048576
MOST_EVENTS = 256

WRONG = -22
FULL = -28
TOO_LITTLE = -33
CANNOT_BE = -74

START = 0
COME_IN = 1
POUR = 2
FOUND = 3

# How many numbers a call has, its own number among them.
LENGTHS = (2, 5, 4, 4)


class Session:
    """The tanks since the last start that was answered 0."""

    def __init__(self):
        self.tanks = 0
        self.events = 0
        self.courses = Courses(0)

    def answer(self, call):
        """Carry out one call: its answer."""
        if call[0] == START:
            return self.start(call[1])
        if call[0] == COME_IN:
            return self.come_in(call[1], call[2], call[3], call[4])
        if call[0] == POUR:
            return self.pour(call[1], call[2], call[3])
        return self.found(call[1], call[2], call[3])

    def start(self, tanks):
        """Begin anew with so many empty tanks."""
        if tanks == 0 or tanks > MOST_TANKS:
            return WRONG
        self.tanks = tanks
        self.events = 0
        self.courses = Courses(tanks)
        return 0

    def come_in(self, tank, amount, least, most):
        """So many grains come into the tank, from least to most of them marked."""
        if tank >= self.tanks or amount == 0 or amount > MOST_AMOUNT:
            return WRONG
        if least > most or most > amount:
            return WRONG
        if self.events == MOST_EVENTS:
            return FULL
        self.courses.come_in(tank, amount, least, most)
        return self.count_event()

    def pour(self, origin, goal, amount):
        """So many grains, whichever they are, go from one tank to the other."""
        if origin >= self.tanks or goal >= self.tanks or origin == goal or amount == 0:
            return WRONG
        if self.courses.amount(origin) < amount:
            return TOO_LITTLE
        if self.events == MOST_EVENTS:
            return FULL
        self.courses.pour(origin, goal, amount)
        return self.count_event()

    def found(self, tank, least, most):
        """From least to most marked grains are in the tank now."""
        if tank >= self.tanks or least > most:
            return WRONG
        if self.events == MOST_EVENTS:
            return FULL
        if not self.courses.found(tank, least, most):
            return CANNOT_BE
        return self.count_event()

    def count_event(self):
        """Count one more of what came in, was poured or found: how many there were before."""
        before = self.events
        self.events += 1
        return before


def answers(calls):
    """For each call, in order: how many numbers it answers, which is 1, and that number."""
    session = Session()
    given = []
    at = 0
    while at < len(calls):
        behind = at + LENGTHS[calls[at]]
        given.append(1)
        given.append(session.answer(calls[at:behind]))
        at = behind
    return given
