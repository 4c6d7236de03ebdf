"""Small examples against all courses counted out one by one."""

import random
import unittest

from tests.helpers import LARGEST, CountedOut, answered, come_in, found, pour, random_call, random_example, start

FACTOR = 262144


def scaled(call):
    """The call with all its grains so many times as many."""
    kept = {0: 2, 1: 2, 2: 3, 3: 2}[call[0]]
    return call[:kept] + [number * FACTOR for number in call[kept:]]


class CountedOutOneByOne(unittest.TestCase):
    def check_each_number(self, calls, told, counted):
        for tank in range(len(counted.has)):
            may_be = counted.may_be(tank)
            self.assertTrue(may_be)
            for marked in range(counted.has[tank] + 2):
                last = counted.events if marked in may_be else -74
                given = answered(*calls, found(tank, marked, marked))
                self.assertEqual(given, told + [last], (calls, tank, marked))

    def test_whole_lists(self):
        chance = random.Random(11)
        told_of = {}
        for example in range(1500):
            calls, told, counted = random_example(chance, 14)
            self.assertEqual(answered(*calls), told, calls)
            for number in told:
                told_of[number] = told_of.get(number, 0) + 1
        for number in (-22, -33, -74, 0, 5, 9):
            self.assertGreater(told_of.get(number, 0), 100, number)

    def test_each_number_in_each_tank(self):
        chance = random.Random(12)
        for example in range(120):
            calls, told, counted = random_example(chance, 10)
            self.check_each_number(calls, told, counted)

    def test_long_lists_of_few_grains(self):
        chance = random.Random(17)
        for example in range(60):
            counted = CountedOut()
            calls = [start(chance.randint(2, 4))]
            told = [counted.call(calls[0])]
            while len(calls) < 80:
                call = random_call(chance, counted.has, 3)
                if call[0] == 1 and sum(counted.has) + call[2] > 12:
                    continue
                calls.append(call)
                told.append(counted.call(call))
                counted.join_courses()
            self.assertEqual(answered(*calls), told, calls)
            self.check_each_number(calls, told, counted)

    def test_refused_calls_change_nothing(self):
        chance = random.Random(13)
        for example in range(400):
            calls, told, counted = random_example(chance, 14)
            taken = [call for call, number in zip(calls, told) if number >= 0]
            self.assertEqual(answered(*taken), [number for number in told if number >= 0], calls)

    def test_many_times_as_many_grains(self):
        # Bounds of whole flows go with the amounts: all that may be is so many times as much.
        chance = random.Random(14)
        for example in range(250):
            calls, told, counted = random_example(chance, 12)
            large = [scaled(call) for call in calls]
            self.assertEqual(answered(*large), told, calls)
            for tank in range(len(counted.has)):
                highest = max(counted.may_be(tank)) * FACTOR
                lowest = min(counted.may_be(tank)) * FACTOR
                for call, last in (
                    (found(tank, highest + 1, LARGEST), -74),
                    (found(tank, highest, LARGEST), counted.events),
                    (found(tank, 0, lowest), counted.events),
                ):
                    self.assertEqual(answered(*large, call), told + [last], (calls, call))
                if lowest:
                    self.assertEqual(answered(*large, found(tank, 0, lowest - 1)), told + [-74], calls)

    def test_starts_in_between(self):
        chance = random.Random(15)
        for example in range(100):
            first = random_example(chance, 10)
            second = random_example(chance, 10)
            calls = first[0] + [start(0)] + second[0]
            self.assertEqual(answered(*calls), first[1] + [-22] + second[1], calls)

    def test_the_counting_itself(self):
        # 2 courses of the coming in; by the pouring 0 or 1, and 1 or 2, of them go along.
        counted = CountedOut()
        for call in (start(2), come_in(0, 3, 1, 2), pour(0, 1, 2)):
            counted.call(call)
        self.assertEqual(
            counted.courses,
            [((1, 0), (1, 0)), ((1, 1), (0, 1)), ((2, 1), (1, 1)), ((2, 2), (0, 2))])


if __name__ == "__main__":
    unittest.main()
