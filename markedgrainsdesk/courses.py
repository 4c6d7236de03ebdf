"""The courses that may be, kept as a network, and one of them, kept as a flow through it.

A place is a tank from one splitting of its grains to the next; marked grains go along ways
from place to place. They come from the outside, and those in a tank now count as gone there
again. Each whole flow within the ways' bounds is a course, and each course is such a flow.
"""

OUTSIDE = 0
# The tanks of a set let their marked grains out to here while that set is asked about.
GATHERED = 1
FIRST_TANK = 2


class Courses:
    """All courses that may be, and one among them that is at hand.

    Ways stand in pairs: way ^ 1 is the same way backward. The room of a way is how many marked
    grains more may go along it than by the course at hand, that of its backward way how many
    fewer; so a way's bounds are in its two rooms and need not be kept beside them.
    A tank's outlet is the way by which its marked grains of now count as gone outside; the ways
    from the outside are the comings in, with the least that come along each in leasts.
    What was learned of the most and least in sets of tanks is in highest and lowest.
    """

    def __init__(self, tanks):
        self.goals = []
        self.rooms = []
        self.ways = [[], []]
        self.outlets = []
        self.leasts = {}
        self.highest = {}
        self.lowest = {}
        for place in range(FIRST_TANK, FIRST_TANK + tanks):
            self.ways.append([])
            self.outlets.append(self.add_way(place, OUTSIDE, 0, 0))

    def add_way(self, origin, goal, more, fewer):
        """A new way, by which so many more or fewer may go than go by the course at hand."""
        way = len(self.goals)
        self.goals.append(goal)
        self.rooms.append(more)
        self.ways[origin].append(way)
        self.goals.append(origin)
        self.rooms.append(fewer)
        self.ways[goal].append(way + 1)
        return way

    def place_of(self, tank):
        """The place that the tank is now."""
        return self.goals[self.outlets[tank] ^ 1]

    def marked(self, tank):
        """How many marked grains are in the tank by the course at hand."""
        return self.rooms[self.outlets[tank] ^ 1]

    def amount(self, tank):
        """How many grains are in the tank, by every course."""
        return self.rooms[self.outlets[tank]] + self.marked(tank)

    def set_outlet(self, tank, amount, marked):
        """So many grains are in the tank, so many of them marked by the course at hand."""
        outlet = self.outlets[tank]
        self.rooms[outlet] = amount - marked
        self.rooms[outlet ^ 1] = marked

    def come_in(self, tank, amount, least, most):
        """Grains come in, by the course at hand as few marked ones as may be: their way."""
        self.forget_limits()
        way = self.add_way(OUTSIDE, self.place_of(tank), most - least, 0)
        self.leasts[way] = least
        self.set_outlet(tank, self.amount(tank) + amount, self.marked(tank) + least)
        return way

    def pour(self, origin, goal, amount):
        """Grains are poured; by the course at hand as few marked ones as may be go along."""
        place = self.place_of(origin)
        left = self.amount(origin) - amount
        along = max(0, self.marked(origin) - left)
        stay = self.marked(origin) - along
        self.go_on(origin, left, stay, 0, left)
        self.add_way(place, self.place_of(goal), amount - along, along)
        self.set_outlet(goal, self.amount(goal) + amount, self.marked(goal) + along)

    def go_on(self, tank, amount, marked, least, most):
        """The tank becomes a new place with so many grains, from least to most of them marked."""
        self.forget_limits()
        way = self.outlets[tank]
        place = len(self.ways)
        # The outlet itself becomes the way to the new place, so no worn-out ways pile up.
        self.ways.append([way ^ 1])
        self.goals[way] = place
        self.rooms[way] = most - marked
        self.rooms[way ^ 1] = marked - least
        self.outlets[tank] = self.add_way(place, OUTSIDE, amount - marked, marked)

    def found(self, tank, least, most):
        """Whether so many may be in the tank now; if so, only courses by which they are stay."""
        marked = self.bring(1 << tank, least, most)
        if marked < least or marked > most:
            return False
        self.go_on(tank, self.amount(tank), marked, least, most)
        return True

    def narrow(self, way, least, most):
        """Whether so many may have come in along the way; if so, only courses by which they did stay."""
        lowest = self.leasts[way]
        highest = lowest + self.rooms[way ^ 1] + self.rooms[way]
        marked = self.bring_coming(way, least, most)
        # No course is lost by bounds that none goes beyond; the next refusal is then seen at once.
        if marked < least:
            self.set_bounds(way, lowest, marked, marked)
            return False
        if marked > most:
            self.set_bounds(way, marked, marked, highest)
            return False
        if lowest < least or most < highest:
            self.forget_limits()
            self.set_bounds(way, max(lowest, least), marked, min(highest, most))
        return True

    def set_bounds(self, way, least, marked, most):
        """From least to most come in along the way, so many of them by the course at hand."""
        self.leasts[way] = least
        self.rooms[way] = most - marked
        self.rooms[way ^ 1] = marked - least

    def most(self, chosen):
        """The most marked grains that may be in the tanks whose bits are in chosen, together."""
        if chosen not in self.highest:
            amount = sum([self.amount(tank) for tank in self.members(chosen)])
            self.highest[chosen] = self.bring(chosen, amount, amount)
        return self.highest[chosen]

    def least(self, chosen):
        """The least marked grains that may be in the tanks whose bits are in chosen, together."""
        if chosen not in self.lowest:
            self.lowest[chosen] = self.bring(chosen, 0, 0)
        return self.lowest[chosen]

    def forget_limits(self):
        """What was learned of the most and least in sets of tanks is no longer so."""
        self.highest = {}
        self.lowest = {}

    def members(self, chosen):
        """The tanks whose bits are in chosen."""
        return [tank for tank in range(len(self.outlets)) if chosen >> tank & 1]

    def bring(self, chosen, least, most):
        """Turn to a course by which the chosen tanks have from least to most, or as near as may be."""
        # Refused findings don't count among the 256, so there may be thousands of one tank.
        if chosen in self.highest and least > self.highest[chosen]:
            return self.highest[chosen]
        if chosen in self.lowest and most < self.lowest[chosen]:
            return self.lowest[chosen]
        marked = sum([self.marked(tank) for tank in self.members(chosen)])
        if marked < least:
            self.part_outlets(chosen)
            marked += self.push(OUTSIDE, GATHERED, least - marked)
            if marked < least:
                self.highest[chosen] = marked
        elif marked > most:
            self.part_outlets(chosen)
            marked -= self.push(GATHERED, OUTSIDE, marked - most)
            if marked > most:
                self.lowest[chosen] = marked
        return marked

    def bring_coming(self, way, least, most):
        """Turn to a course by which from least to most came in along the way, or as near as may be."""
        marked = self.leasts[way] + self.rooms[way ^ 1]
        if marked < least:
            return marked + self.push_along(way, least - marked)
        if marked > most:
            return marked - self.push_along(way ^ 1, marked - most)
        return marked

    def push_along(self, way, wanted):
        """Push more along this very way, up to those wanted: how many were pushed."""
        more = self.rooms[way]
        fewer = self.rooms[way ^ 1]
        # Shut while pushing: what is pushed on would else come back by the way itself.
        self.rooms[way] = 0
        self.rooms[way ^ 1] = 0
        self.part_outlets(0)
        pushed = self.push(self.goals[way], self.goals[way ^ 1], min(wanted, more))
        self.rooms[way] = more - pushed
        self.rooms[way ^ 1] = fewer + pushed
        return pushed

    def part_outlets(self, chosen):
        """Let the outlets of the chosen tanks end in the gathering place and all others outside."""
        self.ways[OUTSIDE] = list(self.leasts)
        self.ways[GATHERED] = []
        for tank, outlet in enumerate(self.outlets):
            goal = GATHERED if chosen >> tank & 1 else OUTSIDE
            self.goals[outlet] = goal
            self.ways[goal].append(outlet ^ 1)

    def push(self, origin, goal, wanted):
        """Push more marked ones from origin to goal, up to those wanted: how many were pushed."""
        pushed = 0
        while pushed < wanted:
            far = self.distances(origin, goal)
            if far[origin] < 0:
                return pushed
            pushed += self.push_shortest(origin, goal, wanted - pushed, far)
        return pushed

    def distances(self, origin, goal):
        """How many ways with room lead from each place to the goal; -1 if more than from origin."""
        goals = self.goals
        rooms = self.rooms
        far = [-1] * len(self.ways)
        far[goal] = 0
        layer = [goal]
        steps = 0
        while layer and far[origin] < 0:
            steps += 1
            farther = []
            for place in layer:
                for way in self.ways[place]:
                    before = goals[way]
                    if far[before] < 0 and rooms[way ^ 1] > 0:
                        far[before] = steps
                        farther.append(before)
            layer = farther
        return far

    def push_shortest(self, origin, goal, wanted, far):
        """Push along the shortest paths to the goal, till none has room or enough is pushed."""
        tried = [0] * len(self.ways)
        path = []
        place = origin
        pushed = 0
        while pushed < wanted:
            way = self.nearer_way(place, far, tried)
            if way >= 0:
                path.append(way)
                place = self.goals[way]
            elif place == origin:
                return pushed
            else:
                place = self.goals[path.pop() ^ 1]
                tried[place] += 1
            if place == goal:
                pushed += self.push_path(path, wanted - pushed)
                path = []
                place = origin
        return pushed

    def nearer_way(self, place, far, tried):
        """The first way with room, of those not tried in vain, that comes nearer; -1 if none."""
        ways = self.ways[place]
        nearer = far[place] - 1
        first = tried[place]
        for at in range(first, len(ways)):
            way = ways[at]
            if far[self.goals[way]] == nearer and self.rooms[way] > 0:
                tried[place] = at
                return way
        tried[place] = len(ways)
        return -1

    def push_path(self, path, wanted):
        """Push along the path what it has room for, up to those wanted: how many were pushed."""
        pushed = min(wanted, min([self.rooms[way] for way in path]))
        for way in path:
            self.rooms[way] -= pushed
            self.rooms[way ^ 1] += pushed
        return pushed
