"""Calls written by name, and an object that counts out all courses one by one."""

from markedgrainsdesk.tanks import answers

LARGEST = 4294967295
MOST_AMOUNT = 1048576


def start(tanks):
    return [0, tanks]


def come_in(tank, amount, least, most):
    return [1, tank, amount, least, most]


def pour(origin, goal, amount):
    return [2, origin, goal, amount]


def found(tank, least, most):
    return [3, tank, least, most]


def narrow(which, least, most):
    return [4, which, least, most]


def has(tank):
    return [5, tank]


def most_of(*tanks):
    return [6, set_of(*tanks)]


def least_of(*tanks):
    return [7, set_of(*tanks)]


def set_of(*tanks):
    return sum(1 << tank for tank in tanks)


def questions(tanks):
    """has of each tank, and most and least of each set of them."""
    asked = [has(tank) for tank in range(tanks)]
    return asked + [[kind, chosen] for chosen in range(1 << tanks) for kind in (6, 7)]


def joined(calls):
    return [number for call in calls for number in call]


def answered(*calls):
    """The number that each call answers, once it is sure that each answers just one."""
    given = answers(joined(calls))
    assert given[0::2] == [1] * len(calls), given
    assert len(given) == 2 * len(calls), given
    return given[1::2]


def told_by(calls, behind):
    """What the calls behind are answered, with the other calls ahead of them."""
    return answered(*calls, *behind)[len(calls):]


def first_difference(one, other):
    """Where two lists first differ, and how; None if they don't. (unittest's own takes long on long lists.)"""
    for at in range(max(len(one), len(other))):
        if one[at:at + 1] != other[at:at + 1]:
            return at, one[at:at + 1], other[at:at + 1]
    return None


class CountedOut:
    """The document's words taken literally, for small examples: a list of all courses.

    A course is a pair: what it tells of each coming in and pouring (None where something was
    found), and the marked ones in each tank by it.
    """

    def __init__(self):
        self.amounts = []
        self.kinds = []
        self.courses = [((), ())]

    @property
    def events(self):
        return len(self.kinds)

    def call(self, call):
        answer = (self.start, self.come_in, self.pour, self.found, self.narrow, self.has, self.most, self.least)
        return answer[call[0]](*call[1:])

    def count(self, kind):
        self.kinds.append(kind)
        return self.events - 1

    def start(self, tanks):
        if tanks == 0 or tanks > 32:
            return -22
        self.amounts = [0] * tanks
        self.kinds = []
        self.courses = [((), (0,) * tanks)]
        return 0

    def come_in(self, tank, amount, least, most):
        if tank >= len(self.amounts) or amount == 0 or amount > MOST_AMOUNT or least > most or most > amount:
            return -22
        if self.events == 256:
            return -28
        self.amounts[tank] += amount
        self.courses = [
            (told + (marked,), with_more(state, tank, marked))
            for told, state in self.courses
            for marked in range(least, most + 1)
        ]
        return self.count("in")

    def pour(self, origin, goal, amount):
        if origin >= len(self.amounts) or goal >= len(self.amounts) or origin == goal or amount == 0:
            return -22
        if self.amounts[origin] < amount:
            return -33
        if self.events == 256:
            return -28
        self.courses = [
            (told + (along,), with_more(with_more(state, origin, -along), goal, along))
            for told, state in self.courses
            for along in range(amount + 1)
            if along <= state[origin] and amount - along <= self.amounts[origin] - state[origin]
        ]
        self.amounts[origin] -= amount
        self.amounts[goal] += amount
        return self.count("pour")

    def found(self, tank, least, most):
        if tank >= len(self.amounts) or least > most:
            return -22
        if self.events == 256:
            return -28
        left = [(told + (None,), state) for told, state in self.courses if least <= state[tank] <= most]
        if not left:
            return -74
        self.courses = left
        return self.count("found")

    def narrow(self, which, least, most):
        if which >= self.events or self.kinds[which] != "in" or least > most:
            return -22
        left = [course for course in self.courses if least <= course[0][which] <= most]
        if not left:
            return -74
        self.courses = left
        return 0

    def has(self, tank):
        return -22 if tank >= len(self.amounts) else self.amounts[tank]

    def most(self, chosen):
        return -22 if chosen >> len(self.amounts) else max(self.may_be(chosen))

    def least(self, chosen):
        return -22 if chosen >> len(self.amounts) else min(self.may_be(chosen))

    def may_be(self, chosen):
        """Each number of marked ones that may be in these tanks together."""
        return {sum(state[tank] for tank in range(len(state)) if chosen >> tank & 1) for told, state in self.courses}

    def join_courses(self):
        """Keep one course of those that differ in pourings alone: what comes later is the same by them all."""
        came = [kind == "in" for kind in self.kinds]
        kept = {
            (tuple(number if keep else None for number, keep in zip(told, came)), state)
            for told, state in self.courses
        }
        self.courses = sorted(kept, key=repr)


def with_more(state, tank, more):
    return state[:tank] + (state[tank] + more,) + state[tank + 1:]


def two_ends(chance, highest):
    """From least to most, now and then just one number, rarely the wrong way round."""
    ends = sorted(chance.randint(0, highest) for end in range(2))
    if chance.random() < 0.3:
        ends = ends[:1] * 2
    return ends if chance.random() < 0.97 else ends[::-1]


def random_call(chance, amounts, events, largest):
    """A call on tanks that have so much, behind so many events; most are not refused, a few are."""
    tanks = len(amounts)
    tank = chance.randrange(tanks + (chance.random() < 0.08))
    kind = chance.choice((1, 1, 1, 2, 2, 2, 2, 3, 3, 3, 4, 4, 4, 5, 6, 7))
    if kind == 1:
        amount = chance.randint(1, largest)
        return come_in(tank, amount, *two_ends(chance, amount))
    if kind == 2:
        full = [place for place in range(tanks) if amounts[place]] or [0]
        origin = chance.choice(full)
        most = amounts[origin] + (chance.random() < 0.1)
        return pour(origin, tank, chance.randint(1, most) if most else 1)
    if kind == 3:
        return found(tank, *two_ends(chance, max(amounts) + 1))
    if kind == 4:
        return narrow(chance.randint(0, events), *two_ends(chance, largest + 1))
    if kind == 5:
        return has(tank)
    return [kind, chance.randrange((1 << tanks) + (chance.random() < 0.2))]


def random_example(chance, length, largest=4, most_courses=3000):
    """Calls with their answers counted out, and the object that counted."""
    counted = CountedOut()
    calls = [start(chance.randint(1, 4))]
    told = [counted.call(calls[0])]
    while len(calls) < length and len(counted.courses) <= most_courses:
        calls.append(random_call(chance, counted.amounts, counted.events, largest))
        told.append(counted.call(calls[-1]))
    return calls, told, counted
