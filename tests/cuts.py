"""What may be, reckoned in another way: a table of the most and the least of every set, for few tanks.

Where some step splits a tank, its old place may lie on either side of a cut; the most of a set is
the lowest cut, the least the highest. So long lists of large amounts can be checked too, which are
beyond counting out.
"""

from tests.helpers import LARGEST, MOST_AMOUNT, come_in, found, has, narrow, pour, start


class Cuts:
    def __init__(self, tanks):
        self.sets = range(1 << tanks)
        self.amounts = [0] * tanks
        self.events = []
        self.clear()

    def clear(self):
        self.high = [0 for chosen in self.sets]
        self.low = [0 for chosen in self.sets]

    def call(self, call):
        answer = (None, self.come_in, self.pour, self.found, self.narrow, self.has, self.most, self.least)
        return answer[call[0]](*call[1:])

    def has(self, tank):
        return -22 if tank >= len(self.amounts) else self.amounts[tank]

    def most(self, chosen):
        return -22 if chosen not in self.sets else self.high[chosen]

    def least(self, chosen):
        return -22 if chosen not in self.sets else self.low[chosen]

    def taken(self, event):
        self.events.append(event)
        self.step(event)
        return len(self.events) - 1

    def come_in(self, tank, amount, least, most):
        if tank >= len(self.amounts) or not 0 < amount <= MOST_AMOUNT or not least <= most <= amount:
            return -22
        if len(self.events) == 256:
            return -28
        self.amounts[tank] += amount
        return self.taken(("in", tank, least, most))

    def pour(self, origin, goal, amount):
        if max(origin, goal) >= len(self.amounts) or origin == goal or amount == 0:
            return -22
        if self.amounts[origin] < amount:
            return -33
        if len(self.events) == 256:
            return -28
        self.amounts[origin] -= amount
        self.amounts[goal] += amount
        return self.taken(("pour", origin, goal, amount, self.amounts[origin]))

    def found(self, tank, least, most):
        if tank >= len(self.amounts) or least > most:
            return -22
        if len(self.events) == 256:
            return -28
        if least > self.high[1 << tank] or most < self.low[1 << tank]:
            return -74
        return self.taken(("found", tank, least, most))

    def narrow(self, which, least, most):
        if which >= len(self.events) or self.events[which][0] != "in" or least > most:
            return -22
        before = self.events[which]
        self.events[which] = ("in", before[1], max(least, before[2]), min(most, before[3]))
        may_be = self.events[which][2] <= self.events[which][3] and self.step_all()
        if not may_be:
            self.events[which] = before
            self.step_all()
        return 0 if may_be else -74

    def step_all(self):
        """Go through all events anew: whether there is a course at all."""
        self.clear()
        for event in self.events:
            self.step(event)
        return self.high[0] == self.low[0] == 0

    def step(self, event):
        high = self.high
        low = self.low
        bit = 1 << event[1]
        if event[0] == "in":
            self.high = [high[chosen] + (event[3] if chosen & bit else 0) for chosen in self.sets]
            self.low = [low[chosen] + (event[2] if chosen & bit else 0) for chosen in self.sets]
        elif event[0] == "pour":
            goal = 1 << event[2]
            over = [
                (event[4] if chosen & bit else 0) + (event[3] if chosen & goal else 0) for chosen in self.sets]
            self.high = [min(high[chosen & ~bit] + over[chosen], high[chosen | bit]) for chosen in self.sets]
            self.low = [max(low[chosen & ~bit], low[chosen | bit] - over[~chosen]) for chosen in self.sets]
        else:
            self.high = [
                min(high[chosen], high[chosen ^ bit] + (event[3] if chosen & bit else -event[2]))
                for chosen in self.sets]
            self.low = [
                max(low[chosen], low[chosen ^ bit] + (event[2] if chosen & bit else -event[3]))
                for chosen in self.sets]


def around(chance, lowest, highest):
    """Two ends that mostly lie about what may be; some beyond it."""
    middle = chance.randint(max(0, lowest - 2), highest + 2)
    wide = chance.choice((0, 1, chance.randint(0, highest - lowest + 1), highest - lowest + 5))
    return [max(0, middle - wide), chance.choice((middle, middle + wide, LARGEST))]


def large_call(chance, cuts):
    """A call on large amounts, with findings and narrowings close to what may just be."""
    tanks = len(cuts.amounts)
    tank = chance.randrange(tanks)
    kind = chance.choice((1, 2, 2, 2, 2, 3, 3, 4, 4, 5, 6, 6, 7, 7))
    if kind == 1:
        amount = chance.choice((MOST_AMOUNT, chance.randint(1, MOST_AMOUNT), chance.randint(1, 50)))
        return come_in(tank, amount, *sorted((chance.randint(0, amount), chance.randint(0, amount))))
    if kind == 2:
        origin = chance.choice([place for place in range(tanks) if cuts.amounts[place]] or [0])
        goal = tank if tank != origin else (origin + 1) % tanks
        return pour(origin, goal, chance.randint(1, max(1, cuts.amounts[origin])))
    if kind == 3:
        return found(tank, *around(chance, cuts.low[1 << tank], cuts.high[1 << tank]))
    if kind == 4:
        comings = [which for which, event in enumerate(cuts.events) if event[0] == "in"] or [0]
        which = chance.choice(comings)
        return narrow(which, *(around(chance, *cuts.events[which][2:4]) if cuts.events else (0, 0)))
    if kind == 5:
        return has(tank)
    return [kind, chance.randrange(1 << tanks)]


def large_example(chance, tanks, length):
    """Calls with their answers reckoned as cuts, and the cuts."""
    cuts = Cuts(tanks)
    calls = [start(tanks)]
    told = [0]
    while len(calls) < length:
        calls.append(large_call(chance, cuts))
        told.append(cuts.call(calls[-1]))
    return calls, told, cuts
