"""Calls written by name, and an object that counts out all courses one by one."""

from markedgrainsdesk.tanks import answers

LARGEST = 4294967295
MOST_AMOUNT = 1048576


def start(tanks):
    return [0, tanks]


def come_in(tank, amount, least, most):
    return [1, tank, amount, least, most]


def pour(origin, goal, amount):
    return [2, origin, goal, amount]


def found(tank, least, most):
    return [3, tank, least, most]


def joined(calls):
    return [number for call in calls for number in call]


def answered(*calls):
    """The number that each call answers, once it is sure that each answers just one."""
    given = answers(joined(calls))
    assert given[0::2] == [1] * len(calls), given
    assert len(given) == 2 * len(calls), given
    return given[1::2]


def first_difference(one, other):
    """Where two lists first differ, and how; None if they don't. (unittest's own takes long on long lists.)"""
    for at in range(max(len(one), len(other))):
        if one[at:at + 1] != other[at:at + 1]:
            return at, one[at:at + 1], other[at:at + 1]
    return None


class CountedOut:
    """The document's words taken literally, for small examples: a list of all courses.

    A course is a pair: what it tells of each coming in and pouring, and the marked ones in
    each tank by it.
    """

    def __init__(self):
        self.has = []
        self.events = 0
        self.courses = [((), ())]

    def call(self, call):
        return (self.start, self.come_in, self.pour, self.found)[call[0]](*call[1:])

    def count(self):
        self.events += 1
        return self.events - 1

    def start(self, tanks):
        if tanks == 0 or tanks > 32:
            return -22
        self.has = [0] * tanks
        self.events = 0
        self.courses = [((), (0,) * tanks)]
        return 0

    def come_in(self, tank, amount, least, most):
        if tank >= len(self.has) or amount == 0 or amount > MOST_AMOUNT or least > most or most > amount:
            return -22
        if self.events == 256:
            return -28
        self.has[tank] += amount
        self.courses = [
            (told + (marked,), with_more(state, tank, marked))
            for told, state in self.courses
            for marked in range(least, most + 1)
        ]
        return self.count()

    def pour(self, origin, goal, amount):
        if origin >= len(self.has) or goal >= len(self.has) or origin == goal or amount == 0:
            return -22
        if self.has[origin] < amount:
            return -33
        if self.events == 256:
            return -28
        self.courses = [
            (told + (along,), with_more(with_more(state, origin, -along), goal, along))
            for told, state in self.courses
            for along in range(amount + 1)
            if along <= state[origin] and amount - along <= self.has[origin] - state[origin]
        ]
        self.has[origin] -= amount
        self.has[goal] += amount
        return self.count()

    def found(self, tank, least, most):
        if tank >= len(self.has) or least > most:
            return -22
        if self.events == 256:
            return -28
        left = [course for course in self.courses if least <= course[1][tank] <= most]
        if not left:
            return -74
        self.courses = left
        return self.count()

    def join_courses(self):
        """Keep one course of those by which the tanks have the same: what comes later is the same too."""
        self.courses = [((), state) for state in sorted({state for told, state in self.courses})]

    def may_be(self, tank):
        """Each number of marked ones that may be in the tank."""
        return {state[tank] for told, state in self.courses}


def with_more(state, tank, more):
    return state[:tank] + (state[tank] + more,) + state[tank + 1:]


def random_call(chance, has, largest):
    """A call on tanks that have so much; most of them are not refused, a few are."""
    tanks = len(has)
    tank = chance.randrange(tanks + (chance.random() < 0.03))
    kind = chance.choice((1, 1, 2, 2, 2, 3, 3))
    if kind == 1:
        amount = chance.randint(1, largest)
        ends = sorted((chance.randint(0, amount), chance.randint(0, amount)))
        return come_in(tank, amount, *ends)
    if kind == 2:
        full = [place for place in range(tanks) if has[place]] or [0]
        origin = chance.choice(full)
        return pour(origin, tank, chance.randint(1, has[origin] + (chance.random() < 0.1)) if has[origin] else 1)
    ends = sorted(chance.randint(0, max(has) + 1) for end in range(2))
    return found(tank, *(ends if chance.random() < 0.7 else ends[:1] * 2))


def random_example(chance, length, largest=4, most_courses=3000):
    """Calls with their answers counted out, and the object that counted."""
    counted = CountedOut()
    calls = [start(chance.randint(1, 4))]
    told = [counted.call(calls[0])]
    while len(calls) < length and len(counted.courses) <= most_courses:
        calls.append(random_call(chance, counted.has, largest))
        told.append(counted.call(calls[-1]))
    return calls, told, counted
