"""The largest that may be handed in. 5,000 calls are at most 24,997 numbers, as none has over 5."""

import random
import time
import unittest

from tests.cuts import large_example
from tests.helpers import (
    LARGEST, MOST_AMOUNT, answered, answers, come_in, first_difference, found, has, joined, least_of, most_of, narrow,
    pour, start)

MOST_CALLS = 5000
# Far more seconds than any list here takes, so that a slow machine doesn't matter but endless work does.
MOST_SECONDS = 120


def tank_by_tank():
    """223 calls that are taken: all tanks filled and looked into, poured together and apart again.

    Each tank gets four full comings in; so many marked ones as (tank + 1) * 1000 are found there.
    """
    calls = [come_in(tank, MOST_AMOUNT, 0, MOST_AMOUNT) for tank in range(32) for time in range(4)]
    calls += [found(tank, (tank + 1) * 1000, (tank + 1) * 1000) for tank in range(32)]
    calls += [pour(tank, 31, 4 * MOST_AMOUNT) for tank in range(31)]
    calls += [found(31, SUM, LARGEST)]
    return calls + [pour(31, tank, 4 * MOST_AMOUNT) for tank in range(31)]


SUM = sum((tank + 1) * 1000 for tank in range(32))


def tangled(chance, length=255, ends_of=lambda tank: (tank + 1, MOST_AMOUNT - 1)):
    """So many calls that are taken: 32 full comings in, then pourings of all sizes to and fro; what each tank has."""
    amounts = [MOST_AMOUNT] * 32
    calls = [come_in(tank, MOST_AMOUNT, *ends_of(tank)) for tank in range(32)]
    while len(calls) < length:
        origin = max(range(32), key=amounts.__getitem__) if len(calls) % 3 == 0 else chance.randrange(32)
        goal = (origin + chance.randint(1, 31)) % 32
        amount = amounts[origin] // chance.randint(2, 9)
        if amount:
            calls.append(pour(origin, goal, amount))
            amounts[origin] -= amount
            amounts[goal] += amount
    return calls, amounts


def into_one(amounts):
    """Pourings of all that the tanks have into tank 0."""
    return [pour(tank, 0, amounts[tank]) for tank in range(1, len(amounts)) if amounts[tank]]


class Largest(unittest.TestCase):
    def setUp(self):
        self.begun = time.monotonic()

    def tearDown(self):
        self.assertLess(time.monotonic() - self.begun, MOST_SECONDS)

    def check(self, given, told):
        self.assertIsNone(first_difference(given, told))

    def test_all_tanks_and_all_256(self):
        calls = tank_by_tank()
        self.assertEqual(len(calls), 223)
        # One tank after another holds none of the marked ones, so that they all are in the last.
        calls += [found(tank, 0, 0) for tank in range(31)]
        told = [0] + list(range(254))
        behind = [found(31, 0, SUM - 1), found(31, SUM + 1, LARGEST)] * 2200
        self.assertLessEqual(len(calls) + len(behind) + 5, MOST_CALLS)
        calls += behind
        told += [-74] * len(behind)
        calls += [found(31, SUM, SUM), pour(31, 0, 4 * MOST_AMOUNT)]
        told += [254, 255]
        calls += [found(0, SUM, SUM), pour(0, 31, 1)]
        told += [-28, -28]
        self.check(answered(start(32), *calls), told)

    def test_tells_of_far_off_tanks_in_a_full_session(self):
        calls = [start(32)] + tank_by_tank()
        told = [0] + list(range(223))
        self.check(answered(*calls, found(7, SUM, SUM), found(31, 1, LARGEST)), told + [223, -74])
        self.check(answered(*calls, found(7, SUM - 1, SUM - 1), found(31, 1, LARGEST)), told + [223, 224])
        self.check(answered(*calls, found(7, SUM + 1, LARGEST)), told + [-74])

    def test_amounts_as_large_as_can_be(self):
        amount = 128 * MOST_AMOUNT
        calls = [come_in(0, MOST_AMOUNT, 0, MOST_AMOUNT)] * 128
        calls += [pour(0, 1, amount), found(1, amount, amount), found(1, 0, amount - 1), found(1, amount + 1, LARGEST)]
        calls += [pour(1, 0, 1)] * 125 + [found(0, 0, 124), found(0, 125, 125), found(0, 125, 125)]
        told = [0] + list(range(130)) + [-74, -74] + list(range(130, 255)) + [-74, 255, -28]
        self.check(answered(start(32), *calls), told)

    def test_thousands_of_refused_findings_in_a_tangle(self):
        calls, amounts = tangled(random.Random(21))
        told = [0] + list(range(255))
        tanks = [tank for tank in range(32) if amounts[tank]]
        while len(calls) < MOST_CALLS - 2:
            tank = tanks[len(calls) % len(tanks)]
            calls.append(found(tank, amounts[tank] + len(calls) % 7 + 1, LARGEST))
            told.append(-74)
        calls.append(found(tanks[0], 0, LARGEST))
        self.check(answered(start(32), *calls), told + [255])

    def test_everything_together_again_out_of_a_tangle(self):
        # Whatever way they went, in one tank all the marked ones are together.
        calls, amounts = tangled(random.Random(22), 223)
        calls += into_one(amounts)
        lowest = sum(range(1, 33))
        highest = 32 * (MOST_AMOUNT - 1)
        told = [0] + list(range(len(calls)))
        calls += [found(0, 0, lowest - 1), found(0, highest + 1, LARGEST)]
        self.check(answered(start(32), *calls, found(0, 0, lowest)), told + [-74, -74, len(told) - 1])
        self.check(answered(start(32), *calls, found(0, highest, LARGEST)), told + [-74, -74, len(told) - 1])

    def test_a_long_row_of_findings_in_one_tank(self):
        # Each finding bounds what came before it; the last refusals go back through all of them.
        calls = []
        for time in range(1, 128):
            calls += [come_in(0, MOST_AMOUNT, 1, MOST_AMOUNT - 1), found(0, 0, time * (MOST_AMOUNT - 1))]
        told = [0] + list(range(254))
        while len(calls) < MOST_CALLS - 1:
            calls.append(found(0, 0, 126) if len(calls) % 2 else found(0, 127 * (MOST_AMOUNT - 1) + 1, LARGEST))
            told.append(-74)
        self.check(answered(start(1), *calls), told)

    def test_as_many_calls_and_numbers_as_there_may_be(self):
        calls = [start(32)] + [come_in(at % 32, MOST_AMOUNT, 0, MOST_AMOUNT) for at in range(MOST_CALLS - 1)]
        numbers = joined(calls)
        self.assertEqual(len(numbers), 24997)
        told = [0] + list(range(256)) + [-28] * (MOST_CALLS - 257)
        self.check(answers(numbers), joined([1, number] for number in told))

    def test_many_sessions_behind_one_another(self):
        calls = []
        told = []
        while len(calls) + 255 <= MOST_CALLS:
            calls += [start(32)] + tank_by_tank() + [found(tank, 0, 0) for tank in range(31)]
            told += [0] + list(range(254))
        self.check(answered(*calls), told)

    def test_all_numbers_largest(self):
        calls = [start(2), come_in(*[LARGEST] * 4), pour(*[LARGEST] * 3), found(*[LARGEST] * 3), start(LARGEST)]
        calls += [narrow(*[LARGEST] * 3), has(LARGEST), [6, LARGEST], [7, LARGEST]]
        self.check(answered(*calls), [0] + [-22] * 8)

    def test_thousands_of_questions_in_a_tangle(self):
        # Just so many are marked in all, so the most of a set and the least of the rest are all of them.
        chance = random.Random(23)
        calls, amounts = tangled(chance, 256, lambda tank: (tank * 30000 + 7, tank * 30000 + 7))
        total = sum(tank * 30000 + 7 for tank in range(32))
        sets = [chance.randrange(1 << 32) for drawn in range((MOST_CALLS - 257 - 32 - 3) // 2)]
        asked = [has(tank) for tank in range(32)] + [[6, LARGEST], [7, LARGEST], [6, 0]]
        asked += joined([[6, chosen], [7, LARGEST ^ chosen]] for chosen in sets)
        given = answered(start(32), *calls, *asked)
        self.check(given[:292], [0] + list(range(256)) + amounts + [total, total, 0])
        for chosen, most, least in zip(sets, given[292::2], given[293::2]):
            self.assertEqual(most + least, total, chosen)
            self.assertLessEqual(most, sum(amounts[tank] for tank in range(32) if chosen >> tank & 1))
            self.assertGreaterEqual(least, 0)
        self.assertGreater(len(set(given[292:])), 1000)

    def test_thousands_of_questions_where_little_is_known(self):
        # All grains may be marked, or none: so in any set all that are there, or none.
        calls, amounts = tangled(random.Random(24), 224, lambda tank: (0, MOST_AMOUNT))
        chance = random.Random(25)
        sets = [chance.randrange(1 << 32) for drawn in range(2350)]
        asked = joined([[6, chosen], [7, chosen]] for chosen in sets)
        told = [0] + list(range(224))
        for chosen in sets:
            told += [sum(amounts[tank] for tank in range(32) if chosen >> tank & 1), 0]
        self.check(answered(start(32), *calls, *asked), told)
        # Once all of them are found to be marked, or none, nothing is left open.
        calls += into_one(amounts)
        for marked in (0, 32 * MOST_AMOUNT):
            told = [0] + list(range(len(calls) + 1))
            told += [marked if chosen & 1 else 0 for chosen in sets for kind in (6, 7)]
            self.check(answered(start(32), *calls, found(0, marked, marked), *asked), told)

    def test_thousands_of_narrowings_in_a_tangle(self):
        # What was found leaves 100 above the least for all comings in together; the first one takes them up.
        calls, amounts = tangled(random.Random(26), 220)
        calls += into_one(amounts)
        lowest = sum(range(1, 33))
        calls += [found(0, 0, lowest + 100)]
        told = [0] + list(range(len(calls)))
        for taken in range(101):
            calls += [narrow(0, 1 + taken, LARGEST), most_of(0), least_of(0)]
            told += [0, lowest + 100, lowest + taken]
            for which in range(1, 32):
                calls.append(narrow(which, which + 1 + 101 - taken, LARGEST))
                told.append(-74)
        while len(calls) < MOST_CALLS - 3:
            which = len(calls) % 31 + 1
            calls += [narrow(which, 0, which + 1), narrow(0, 0, 100), narrow(33, 0, LARGEST)]
            told += [0, -74, -22]
        self.check(answered(start(32), *calls), told)

    def test_narrowed_to_the_last_grain_in_a_tangle(self):
        # Each coming in is heard of by halves, till it is known; so the least of all tanks goes up to their most.
        calls, amounts = tangled(random.Random(27), 256)
        told = [0] + list(range(256))
        leasts = [which + 1 for which in range(32)]
        most = MOST_AMOUNT - 1
        for which in range(32):
            while leasts[which] < most:
                middle = (leasts[which] + most) // 2
                leasts[which] = middle + 1
                calls += [narrow(which, middle + 1, LARGEST), narrow(which, 0, middle), [7, LARGEST], [6, LARGEST]]
                told += [0, -74, sum(leasts), 32 * most]
        self.assertEqual(told[-2], told[-1])
        self.assertLess(len(calls), MOST_CALLS)
        self.check(answered(start(32), *calls), told)

    def test_all_calls_mixed(self):
        for tanks, seed in ((3, 28), (4, 29)):
            calls, told, cuts = large_example(random.Random(seed), tanks, MOST_CALLS)
            self.assertEqual(len(cuts.events), 256)
            self.check(answered(*calls), told)


if __name__ == "__main__":
    unittest.main()
