"""The eight calls together, against all courses counted out one by one."""

import random
import unittest

from tests.helpers import (
    LARGEST, CountedOut, answered, come_in, found, narrow, pour, questions, random_call, random_example, start)

FACTOR = 262144

# How many numbers of each call tell of no grains, and whether its answer does.
WITHOUT_GRAINS = {0: 2, 1: 2, 2: 3, 3: 2, 4: 2, 5: 2, 6: 2, 7: 2}
TELLS_GRAINS = (5, 6, 7)


def scaled(call):
    """The call with all its grains so many times as many."""
    kept = WITHOUT_GRAINS[call[0]]
    return call[:kept] + [number * FACTOR for number in call[kept:]]


def scaled_answer(call, number):
    return number * FACTOR if call[0] in TELLS_GRAINS and number >= 0 else number


class CountedOutOneByOne(unittest.TestCase):
    def check_questions(self, calls, told, counted):
        """has of each tank and most and least of each set."""
        asked = questions(len(counted.amounts))
        self.assertEqual(answered(*calls, *asked), told + [counted.call(call) for call in asked], calls)

    def check_each_finding(self, calls, told, counted):
        for tank in range(len(counted.amounts)):
            may_be = counted.may_be(1 << tank)
            self.assertTrue(may_be)
            for marked in range(counted.amounts[tank] + 2):
                last = counted.events if marked in may_be else -74
                given = answered(*calls, found(tank, marked, marked))
                self.assertEqual(given, told + [last], (calls, tank, marked))

    def check_each_narrowing(self, calls, told, counted):
        for which, kind in enumerate(counted.kinds):
            may_be = {course[0][which] for course in counted.courses}
            for marked in range(6):
                last = -22 if kind != "in" else 0 if marked in may_be else -74
                given = answered(*calls, narrow(which, marked, marked))
                self.assertEqual(given, told + [last], (calls, which, marked))

    def test_whole_lists(self):
        chance = random.Random(11)
        told_of = {}
        for example in range(6000):
            calls, told, counted = random_example(chance, 18)
            self.assertEqual(answered(*calls), told, calls)
            for call, number in zip(calls, told):
                told_of[call[0], number] = told_of.get((call[0], number), 0) + 1
        often = [
            (0, 0), (1, -22), (1, 0), (1, 5), (2, -22), (2, -33), (2, 4), (3, -22), (3, -74), (3, 6), (4, -22),
            (4, -74), (4, 0), (5, -22), (5, 0), (5, 3), (6, -22), (6, 0), (6, 2), (7, -22), (7, 0), (7, 2)]
        for kind in often:
            self.assertGreater(told_of.get(kind, 0), 25, kind)

    def test_each_question_behind_each_list(self):
        chance = random.Random(12)
        for example in range(2000):
            self.check_questions(*random_example(chance, 16))

    def test_each_question_behind_each_call(self):
        # What is asked in between must not stay in mind where it is no longer so.
        chance = random.Random(18)
        for example in range(150):
            calls, told, counted = random_example(chance, 14)
            again = CountedOut()
            asked = []
            for call in calls:
                again.call(call)
                asked += [call] + questions(len(again.amounts))
            again = CountedOut()
            self.assertEqual(answered(*asked), [again.call(call) for call in asked], calls)

    def test_each_number_found_and_narrowed(self):
        chance = random.Random(16)
        for example in range(120):
            example = random_example(chance, 12)
            self.check_each_finding(*example)
            self.check_each_narrowing(*example)

    def test_long_lists_of_few_grains(self):
        chance = random.Random(17)
        for example in range(60):
            counted = CountedOut()
            calls = [start(chance.randint(2, 4))]
            told = [counted.call(calls[0])]
            while len(calls) < 100:
                call = random_call(chance, counted.amounts, counted.events, 3)
                if call[0] == 1 and sum(counted.amounts) + call[2] > 8:
                    continue
                calls.append(call)
                told.append(counted.call(call))
                counted.join_courses()
            self.assertEqual(answered(*calls), told, calls)
            self.check_questions(calls, told, counted)
            self.check_each_finding(calls, told, counted)

    def test_without_the_refused_calls(self):
        chance = random.Random(13)
        for example in range(400):
            calls, told, counted = random_example(chance, 18)
            taken = [call for call, number in zip(calls, told) if number >= 0]
            self.assertEqual(answered(*taken), [number for number in told if number >= 0], calls)

    def test_many_times_as_many_grains(self):
        # Bounds of whole flows go with the amounts: all that may be is so many times as much.
        chance = random.Random(14)
        for example in range(250):
            calls, told, counted = random_example(chance, 14)
            asked = questions(len(counted.amounts))
            told = told + [counted.call(call) for call in asked]
            calls = calls + asked
            large = [scaled(call) for call in calls]
            told = [scaled_answer(call, number) for call, number in zip(calls, told)]
            self.assertEqual(answered(*large), told, calls)
            for tank in range(len(counted.amounts)):
                highest = max(counted.may_be(1 << tank)) * FACTOR
                lowest = min(counted.may_be(1 << tank)) * FACTOR
                for call, last in (
                    (found(tank, highest + 1, LARGEST), -74),
                    (found(tank, highest, LARGEST), counted.events),
                    (found(tank, 0, lowest), counted.events),
                ):
                    self.assertEqual(answered(*large, call), told + [last], (calls, call))
                if lowest:
                    self.assertEqual(answered(*large, found(tank, 0, lowest - 1)), told + [-74], calls)

    def test_starts_in_between(self):
        chance = random.Random(15)
        for example in range(200):
            first = random_example(chance, 12)
            second = random_example(chance, 12)
            calls = first[0] + [start(0)] + second[0]
            self.assertEqual(answered(*calls), first[1] + [-22] + second[1], calls)

    def test_the_counting_itself(self):
        # 2 courses of the coming in; by the pouring 0 or 1, and 1 or 2, of them go along.
        counted = CountedOut()
        for call in (start(2), come_in(0, 3, 1, 2), pour(0, 1, 2)):
            counted.call(call)
        self.assertEqual(
            counted.courses,
            [((1, 0), (1, 0)), ((1, 1), (0, 1)), ((2, 1), (1, 1)), ((2, 2), (0, 2))])
        self.assertEqual(counted.may_be(0b11), {1, 2})
        self.assertEqual(counted.call(found(1, 1, 2)), 2)
        self.assertEqual(counted.call(narrow(0, 2, 2)), 0)
        self.assertEqual(counted.courses, [((2, 1, None), (1, 1)), ((2, 2, None), (0, 2))])


if __name__ == "__main__":
    unittest.main()
