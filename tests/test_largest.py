"""The largest that may be handed in. 5,000 calls are at most 24,997 numbers, as none has over 5."""

import random
import unittest

from tests.helpers import (
    LARGEST, MOST_AMOUNT, answered, answers, come_in, first_difference, found, joined, pour, start)

MOST_CALLS = 5000


def tank_by_tank():
    """223 calls that are taken: all tanks filled and looked into, poured together and apart again.

    Each tank gets four full comings in; so many marked ones as (tank + 1) * 1000 are found there.
    """
    calls = [come_in(tank, MOST_AMOUNT, 0, MOST_AMOUNT) for tank in range(32) for time in range(4)]
    calls += [found(tank, (tank + 1) * 1000, (tank + 1) * 1000) for tank in range(32)]
    calls += [pour(tank, 31, 4 * MOST_AMOUNT) for tank in range(31)]
    calls += [found(31, SUM, LARGEST)]
    return calls + [pour(31, tank, 4 * MOST_AMOUNT) for tank in range(31)]


SUM = sum((tank + 1) * 1000 for tank in range(32))


def tangled(chance):
    """255 calls that are taken: 32 full comings in, then pourings of all sizes to and fro."""
    has = [MOST_AMOUNT] * 32
    calls = [come_in(tank, MOST_AMOUNT, tank + 1, MOST_AMOUNT - 1) for tank in range(32)]
    while len(calls) < 255:
        origin = max(range(32), key=has.__getitem__) if len(calls) % 3 == 0 else chance.randrange(32)
        goal = (origin + chance.randint(1, 31)) % 32
        amount = has[origin] // chance.randint(2, 9)
        if amount:
            calls.append(pour(origin, goal, amount))
            has[origin] -= amount
            has[goal] += amount
    return calls, has


class Largest(unittest.TestCase):
    def check(self, given, told):
        self.assertIsNone(first_difference(given, told))

    def test_all_tanks_and_all_256(self):
        calls = tank_by_tank()
        self.assertEqual(len(calls), 223)
        # One tank after another holds none of the marked ones, so that they all are in the last.
        calls += [found(tank, 0, 0) for tank in range(31)]
        told = [0] + list(range(254))
        behind = [found(31, 0, SUM - 1), found(31, SUM + 1, LARGEST)] * 2200
        self.assertLessEqual(len(calls) + len(behind) + 5, MOST_CALLS)
        calls += behind
        told += [-74] * len(behind)
        calls += [found(31, SUM, SUM), pour(31, 0, 4 * MOST_AMOUNT)]
        told += [254, 255]
        calls += [found(0, SUM, SUM), pour(0, 31, 1)]
        told += [-28, -28]
        self.check(answered(start(32), *calls), told)

    def test_tells_of_far_off_tanks_in_a_full_session(self):
        calls = [start(32)] + tank_by_tank()
        told = [0] + list(range(223))
        self.check(answered(*calls, found(7, SUM, SUM), found(31, 1, LARGEST)), told + [223, -74])
        self.check(answered(*calls, found(7, SUM - 1, SUM - 1), found(31, 1, LARGEST)), told + [223, 224])
        self.check(answered(*calls, found(7, SUM + 1, LARGEST)), told + [-74])

    def test_amounts_as_large_as_can_be(self):
        amount = 128 * MOST_AMOUNT
        calls = [come_in(0, MOST_AMOUNT, 0, MOST_AMOUNT)] * 128
        calls += [pour(0, 1, amount), found(1, amount, amount), found(1, 0, amount - 1), found(1, amount + 1, LARGEST)]
        calls += [pour(1, 0, 1)] * 125 + [found(0, 0, 124), found(0, 125, 125), found(0, 125, 125)]
        told = [0] + list(range(130)) + [-74, -74] + list(range(130, 255)) + [-74, 255, -28]
        self.check(answered(start(32), *calls), told)

    def test_thousands_of_refused_findings_in_a_tangle(self):
        calls, has = tangled(random.Random(21))
        told = [0] + list(range(255))
        tanks = [tank for tank in range(32) if has[tank]]
        while len(calls) < MOST_CALLS - 2:
            tank = tanks[len(calls) % len(tanks)]
            calls.append(found(tank, has[tank] + len(calls) % 7 + 1, LARGEST))
            told.append(-74)
        calls.append(found(tanks[0], 0, LARGEST))
        self.check(answered(start(32), *calls), told + [255])

    def test_everything_together_again_out_of_a_tangle(self):
        # Whatever way they went, in one tank all the marked ones are together.
        calls, has = tangled(random.Random(22))
        calls = calls[:223]
        has = [MOST_AMOUNT] * 32
        for call in calls[32:]:
            has[call[1]] -= call[3]
            has[call[2]] += call[3]
        calls += [pour(tank, 0, has[tank]) for tank in range(1, 32) if has[tank]]
        lowest = sum(range(1, 33))
        highest = 32 * (MOST_AMOUNT - 1)
        told = [0] + list(range(len(calls)))
        calls += [found(0, 0, lowest - 1), found(0, highest + 1, LARGEST)]
        self.check(answered(start(32), *calls, found(0, 0, lowest)), told + [-74, -74, len(told) - 1])
        self.check(answered(start(32), *calls, found(0, highest, LARGEST)), told + [-74, -74, len(told) - 1])

    def test_a_long_row_of_findings_in_one_tank(self):
        # Each finding bounds what came before it; the last refusals go back through all of them.
        calls = []
        for time in range(1, 128):
            calls += [come_in(0, MOST_AMOUNT, 1, MOST_AMOUNT - 1), found(0, 0, time * (MOST_AMOUNT - 1))]
        told = [0] + list(range(254))
        while len(calls) < MOST_CALLS - 1:
            calls.append(found(0, 0, 126) if len(calls) % 2 else found(0, 127 * (MOST_AMOUNT - 1) + 1, LARGEST))
            told.append(-74)
        self.check(answered(start(1), *calls), told)

    def test_as_many_calls_and_numbers_as_there_may_be(self):
        calls = [start(32)] + [come_in(at % 32, MOST_AMOUNT, 0, MOST_AMOUNT) for at in range(MOST_CALLS - 1)]
        numbers = joined(calls)
        self.assertEqual(len(numbers), 24997)
        told = [0] + list(range(256)) + [-28] * (MOST_CALLS - 257)
        self.check(answers(numbers), joined([1, number] for number in told))

    def test_many_sessions_behind_one_another(self):
        calls = []
        told = []
        while len(calls) + 255 <= MOST_CALLS:
            calls += [start(32)] + tank_by_tank() + [found(tank, 0, 0) for tank in range(31)]
            told += [0] + list(range(254))
        self.check(answered(*calls), told)

    def test_all_numbers_largest(self):
        calls = [start(2), come_in(*[LARGEST] * 4), pour(*[LARGEST] * 3), found(*[LARGEST] * 3), start(LARGEST)]
        self.check(answered(*calls), [0, -22, -22, -22, -22])


if __name__ == "__main__":
    unittest.main()
