"""A refusal is its number alone, and everything is as it was: most and least of all sets ahead of it and behind it."""

import random
import unittest

from tests.helpers import (
    LARGEST, MOST_AMOUNT, answered, come_in, found, has, narrow, pour, questions, random_example, start, told_by)


def refused_calls(counted):
    """A call for each reason to refuse that there is here, with its refusal."""
    tanks = len(counted.amounts)
    calls = [
        (start(0), -22), (start(33), -22), (start(LARGEST), -22),
        (come_in(tanks, 1, 0, 1), -22), (come_in(0, 0, 0, 0), -22), (come_in(0, MOST_AMOUNT + 1, 0, 1), -22),
        (come_in(0, 3, 2, 1), -22), (come_in(0, 3, 0, 4), -22),
        (pour(tanks, 0, 1), -22), (pour(0, tanks, 1), -22), (pour(0, 0, 1), -22),
        (found(tanks, 0, 9), -22), (found(0, 1, 0), -22),
        (narrow(counted.events, 0, 9), -22), (narrow(LARGEST, 0, 9), -22),
        (has(tanks), -22), ([6, 1 << tanks], -22), ([7, LARGEST], -22),
    ]
    if tanks > 1:
        calls += [(pour(0, 1, 0), -22), (pour(0, 1, counted.amounts[0] + 1), -33)]
    for tank in range(tanks):
        calls.append((found(tank, max(counted.may_be(1 << tank)) + 1, LARGEST), -74))
        if min(counted.may_be(1 << tank)):
            calls.append((found(tank, 0, min(counted.may_be(1 << tank)) - 1), -74))
    for which, kind in enumerate(counted.kinds):
        marked = [course[0][which] for course in counted.courses]
        if kind != "in":
            calls.append((narrow(which, 0, LARGEST), -22))
            continue
        calls += [(narrow(which, 1, 0), -22), (narrow(which, max(marked) + 1, LARGEST), -74)]
        if min(marked):
            calls.append((narrow(which, 0, min(marked) - 1), -74))
    return calls


class Refused(unittest.TestCase):
    def test_everything_is_as_it_was(self):
        chance = random.Random(41)
        for example in range(60):
            calls, told, counted = random_example(chance, 14)
            asked = questions(len(counted.amounts))
            before = told_by(calls, asked)
            for call, refusal in refused_calls(counted):
                given = told_by(calls, asked + [call] + asked)
                self.assertEqual(given, before + [refusal] + before, (calls, call))
                self.assertEqual(told_by(calls, [call] + asked), [refusal] + before, (calls, call))

    def test_all_refused_one_behind_another(self):
        chance = random.Random(42)
        for example in range(200):
            calls, told, counted = random_example(chance, 14)
            asked = questions(len(counted.amounts))
            refused = refused_calls(counted)
            chance.shuffle(refused)
            given = told_by(calls, [call for call, refusal in refused] + asked)
            self.assertEqual(given, [refusal for call, refusal in refused] + told_by(calls, asked), calls)

    def test_what_comes_later_is_as_without_it(self):
        chance = random.Random(43)
        for example in range(150):
            calls, told, counted = random_example(chance, 10)
            later = [come_in(0, 3, 1, 2), found(0, 1, LARGEST)]
            if len(counted.amounts) > 1:
                later += [pour(0, 1, 2), found(1, 0, 2)]
            later += [narrow(counted.events, 2, 2)] + questions(len(counted.amounts))
            without = told_by(calls, later)
            refused = [call for call, refusal in refused_calls(counted)]
            self.assertEqual(told_by(calls + refused, later), without, calls)

    def test_when_256_are_there(self):
        calls = [start(2)] + [come_in(0, 3, 1, 2), pour(0, 1, 1)] * 127 + [come_in(1, 3, 1, 2), found(0, 30, 200)]
        self.assertEqual(answered(*calls)[-1], 255)
        asked = questions(2)
        before = told_by(calls, asked)
        for call, refusal in (
            (come_in(0, 3, 1, 2), -28), (pour(0, 1, 1), -28), (found(0, 0, LARGEST), -28), (found(0, 0, 0), -28),
            (narrow(254, 0, 0), -74), (narrow(253, 0, 3), -22), (pour(0, 1, LARGEST), -33), (pour(0, 0, 1), -22),
        ):
            self.assertEqual(told_by(calls, asked + [call] + asked), before + [refusal] + before, call)


if __name__ == "__main__":
    unittest.main()
