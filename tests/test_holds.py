"""What holds, a to d, on drawn lists: small ones, and some with many tanks and large amounts."""

import random
import unittest

from tests.helpers import MOST_AMOUNT, answered, come_in, found, narrow, pour, random_call, start, told_by


class Drawn:
    """Calls that are drawn, and which of them came in; nothing is counted out, so they may be large."""

    def __init__(self, chance, tanks, length, largest):
        self.tanks = tanks
        self.calls = [start(tanks)]
        self.amounts = [0] * tanks
        self.events = []
        while len(self.calls) < length:
            self.add(random_call(chance, self.amounts, len(self.events), largest))

    def add(self, call):
        """Add a call: what it is answered."""
        self.calls.append(call)
        given = answered(*self.calls)[-1]
        if given >= 0 and call[0] in (1, 2, 3):
            self.events.append(call)
            if call[0] == 1:
                self.amounts[call[1]] += call[2]
            if call[0] == 2:
                self.amounts[call[1]] -= call[3]
                self.amounts[call[2]] += call[3]
        return given

    def sets(self, chance, number):
        """Some sets of tanks; all of them if they are no more."""
        if 1 << self.tanks <= number:
            return list(range(1 << self.tanks))
        return [chance.randrange(1 << self.tanks) for drawn in range(number)]

    def most(self, sets):
        return told_by(self.calls, [[6, chosen] for chosen in sets])

    def least(self, sets):
        return told_by(self.calls, [[7, chosen] for chosen in sets])


def drawn_lists(seed, few, many):
    """So many small lists, and so many with up to 32 tanks and large amounts."""
    chance = random.Random(seed)
    for example in range(few):
        yield chance, Drawn(chance, chance.randint(1, 4), 14, 4)
    for example in range(many):
        yield chance, Drawn(chance, chance.choice((6, 12, 32)), 60, MOST_AMOUNT)


class WhatHolds(unittest.TestCase):
    def test_a_there_is_always_a_course(self):
        for chance, drawn in drawn_lists(51, 150, 12):
            sets = drawn.sets(chance, 16)
            for most, least in zip(drawn.most(sets), drawn.least(sets)):
                self.assertLessEqual(0, least)
                self.assertLessEqual(least, most)
            # A course is not refused by what tells nothing, nor by just what may be at most.
            tank = chance.randrange(drawn.tanks)
            most = drawn.most([1 << tank])[0]
            given = told_by(drawn.calls, [found(tank, 0, drawn.amounts[tank]), found(tank, most, most)])
            self.assertEqual(given, [len(drawn.events), len(drawn.events) + 1])

    def test_a_what_is_found_or_heard_makes_no_most_more_nor_least_less(self):
        seen = {}
        for chance, drawn in drawn_lists(52, 200, 15):
            sets = drawn.sets(chance, 16)
            for time in range(6):
                most = drawn.most(sets)
                least = drawn.least(sets)
                call = random_call(chance, drawn.amounts, len(drawn.events), 4 if drawn.tanks < 6 else MOST_AMOUNT)
                if call[0] not in (3, 4):
                    continue
                given = drawn.add(call)
                for before, after in zip(most, drawn.most(sets)):
                    self.assertLessEqual(after, before, drawn.calls)
                    seen[call[0], given >= 0, after < before] = True
                for before, after in zip(least, drawn.least(sets)):
                    self.assertGreaterEqual(after, before, drawn.calls)
                    seen[call[0], given >= 0, after > before] = True
        for kind in (3, 4):
            self.assertIn((kind, True, True), seen)
            self.assertIn((kind, True, False), seen)
            self.assertIn((kind, False, False), seen)
            self.assertNotIn((kind, False, True), seen)

    def test_b_whatever_lies_between_may_be_too(self):
        # A set is poured into one of its tanks, where each number between may be found and no other.
        for chance, drawn in drawn_lists(53, 120, 0):
            for chosen in range(1, 1 << drawn.tanks):
                least = drawn.least([chosen])[0]
                most = drawn.most([chosen])[0]
                members = [tank for tank in range(drawn.tanks) if chosen >> tank & 1]
                first = members[0]
                together = [pour(tank, first, drawn.amounts[tank]) for tank in members[1:] if drawn.amounts[tank]]
                for marked in range(sum(drawn.amounts[tank] for tank in members) + 1):
                    given = told_by(drawn.calls, together + [found(first, marked, marked)])[-1]
                    told = len(drawn.events) + len(together) if least <= marked <= most else -74
                    self.assertEqual(given, told, (drawn.calls, chosen, marked))

    def test_b_between_large_numbers(self):
        for chance, drawn in drawn_lists(54, 0, 10):
            for chosen in drawn.sets(chance, 4):
                least = drawn.least([chosen])[0]
                most = drawn.most([chosen])[0]
                members = [tank for tank in range(drawn.tanks) if chosen >> tank & 1]
                if not members:
                    continue
                together = [pour(tank, members[0], drawn.amounts[tank]) for tank in members[1:] if drawn.amounts[tank]]
                for marked in (least, most, (least + most) // 2, chance.randint(least, most)):
                    given = told_by(drawn.calls, together + [found(members[0], marked, marked)])[-1]
                    self.assertEqual(given, len(drawn.events) + len(together))
                for marked in [most + 1] + [least - 1] * (least > 0):
                    given = told_by(drawn.calls, together + [found(members[0], marked, marked)])[-1]
                    self.assertEqual(given, -74)

    def test_b_of_two_sets(self):
        for chance, drawn in drawn_lists(55, 150, 25):
            sets = drawn.sets(chance, 8)
            pairs = [(one, other) for one in sets for other in sets]
            ones = [one for one, other in pairs]
            others = [other for one, other in pairs]
            both = [one | other for one, other in pairs]
            common = [one & other for one, other in pairs]
            for one, other, all_of, shared in zip(*[drawn.most(each) for each in (ones, others, both, common)]):
                self.assertGreaterEqual(one + other, all_of + shared, drawn.calls)
            for one, other, all_of, shared in zip(*[drawn.least(each) for each in (ones, others, both, common)]):
                self.assertLessEqual(one + other, all_of + shared, drawn.calls)

    def test_c_the_order_of_what_was_heard(self):
        heard_more = 0
        for chance, drawn in drawn_lists(56, 250, 15):
            comings = [which for which, call in enumerate(drawn.events) if call[0] == 1]
            heard = []
            for time in range(5 if comings else 0):
                which = chance.choice(comings)
                ends = sorted(chance.randint(0, drawn.events[which][2]) for end in range(2))
                if told_by(drawn.calls, heard + [narrow(which, *ends)])[-1] == 0:
                    heard.append(narrow(which, *ends))
            heard_more += len(heard) > 2
            asked = [[kind, chosen] for chosen in drawn.sets(chance, 16) for kind in (6, 7)]
            told = told_by(drawn.calls, heard + asked)
            for time in range(4):
                chance.shuffle(heard)
                self.assertEqual(told_by(drawn.calls, heard + asked), told, (drawn.calls, heard))
        self.assertGreater(heard_more, 80)

    def test_c_when_it_was_heard(self):
        # Heard at any time behind the coming in, ahead of or behind what was poured and found, it tells the same.
        for chance, drawn in drawn_lists(57, 250, 10):
            calls = [drawn.calls[0]] + drawn.events
            comings = [which for which, call in enumerate(drawn.events) if call[0] == 1]
            if not comings:
                continue
            which = chance.choice(comings)
            ends = sorted(chance.randint(0, drawn.events[which][2]) for end in range(2))
            call = narrow(which, *ends)
            if answered(*calls, call)[-1] != 0:
                continue
            asked = [[kind, chosen] for chosen in drawn.sets(chance, 16) for kind in (6, 7)]
            told = told_by(calls + [call], asked)
            for at in range(which + 2, len(calls)):
                earlier = calls[:at] + [call] + calls[at:]
                given = answered(*earlier, *asked)
                self.assertEqual(given[:at], [0] + list(range(at - 1)))
                self.assertEqual(given[at:len(earlier)], [0] + list(range(at - 1, len(calls) - 1)))
                self.assertEqual(given[len(earlier):], told, (calls, call, at))

    def test_c_the_same_as_if_it_had_come_in_so(self):
        for chance, drawn in drawn_lists(58, 250, 10):
            calls = [drawn.calls[0]] + [call for call in drawn.events if call[0] != 3]
            comings = [at for at, call in enumerate(calls) if call[0] == 1]
            if not comings:
                continue
            at = chance.choice(comings)
            tank, amount, least, most = calls[at][1:]
            ends = sorted(chance.randint(least, most) for end in range(2))
            asked = [[kind, chosen] for chosen in drawn.sets(chance, 16) for kind in (6, 7)]
            told = told_by(calls + [narrow(at - 1, *ends)], asked)
            known = calls[:at] + [come_in(tank, amount, *ends)] + calls[at + 1:]
            self.assertEqual(told_by(known, asked), told, (calls, at, ends))

    def test_d_poured_within_a_set_or_outside_of_it(self):
        for chance, drawn in drawn_lists(59, 250, 15):
            full = [tank for tank in range(drawn.tanks) if drawn.amounts[tank]]
            if drawn.tanks == 1 or not full:
                continue
            origin = chance.choice(full)
            goal = (origin + chance.randint(1, drawn.tanks - 1)) % drawn.tanks
            call = pour(origin, goal, chance.randint(1, drawn.amounts[origin]))
            sets = [chosen for chosen in drawn.sets(chance, 40) if chosen >> origin & 1 == chosen >> goal & 1]
            asked = [[kind, chosen] for chosen in sets for kind in (6, 7)]
            before = told_by(drawn.calls, asked)
            self.assertEqual(told_by(drawn.calls + [call], asked), before, (drawn.calls, call))


if __name__ == "__main__":
    unittest.main()
