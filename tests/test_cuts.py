"""Long lists of large amounts, against the most and least reckoned as cuts."""

import random
import unittest

from tests.cuts import Cuts, large_example
from tests.helpers import answered, first_difference, random_example


class ReckonedAsCuts(unittest.TestCase):
    def check(self, calls, told):
        self.assertIsNone(first_difference(answered(*calls), told))

    def test_the_cuts_themselves(self):
        # Counted out one by one, the same is told.
        chance = random.Random(61)
        for example in range(1500):
            calls, told, counted = random_example(chance, 16)
            cuts = Cuts(len(counted.amounts))
            self.assertEqual([cuts.call(call) for call in calls[1:]], told[1:], calls)

    def test_lists_with_all_kinds(self):
        chance = random.Random(62)
        told_of = {}
        for example in range(120):
            calls, told, cuts = large_example(chance, chance.randint(1, 5), chance.choice((40, 100, 250)))
            self.check(calls, told)
            for call, number in zip(calls, told):
                if call[0] in (3, 4) and number <= 0:
                    told_of[call[0], number] = told_of.get((call[0], number), 0) + 1
        for kind in ((3, -74), (4, -74), (4, 0)):
            self.assertGreater(told_of.get(kind, 0), 100, kind)

    def test_lists_that_get_full(self):
        chance = random.Random(63)
        for tanks in (2, 3, 4):
            calls, told, cuts = large_example(chance, tanks, 900)
            self.assertTrue(-28 in told)
            self.check(calls, told)


if __name__ == "__main__":
    unittest.main()
