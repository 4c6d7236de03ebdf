"""What the interface says of what is handed in and given back."""

import random
import unittest

from tests.cuts import large_example
from tests.helpers import (
    answered, answers, come_in, found, has, joined, least_of, most_of, narrow, pour, questions, random_example, start)


class Unchanging(list):
    """A list that may be read only, so that a change for a while shows too."""

    def refuse(self, *values, **named):
        raise AssertionError("what was handed in is changed")

    append = clear = extend = insert = pop = remove = reverse = sort = refuse
    __setitem__ = __delitem__ = __iadd__ = __imul__ = refuse


class Interface(unittest.TestCase):
    def test_what_is_handed_in_is_not_changed(self):
        chance = random.Random(31)
        for example in range(50):
            calls, told, counted = random_example(chance, 12)
            numbers = joined(calls)
            handed_in = Unchanging(numbers)
            self.assertEqual(answers(handed_in)[1::2], told)
            self.assertEqual(list(handed_in), numbers)

    def test_a_long_list_handed_in_is_not_changed(self):
        calls, told, cuts = large_example(random.Random(32), 4, 1500)
        numbers = joined(calls)
        handed_in = Unchanging(numbers)
        once = answers(handed_in)
        self.assertTrue(once[1::2] == told)
        self.assertTrue(list(handed_in) == numbers)
        self.assertTrue(answers(handed_in) == once)

    def test_drawn_lists_twice(self):
        chance = random.Random(33)
        for example in range(100):
            calls, told, counted = random_example(chance, 16)
            numbers = joined(calls + questions(len(counted.amounts)))
            before = list(numbers)
            once = answers(numbers)
            self.assertEqual(answers(numbers), once)
            self.assertEqual(numbers, before)
            self.assertEqual(once[:2 * len(told)], joined([1, number] for number in told))

    def test_a_second_time_gives_the_same(self):
        first = joined([start(2), come_in(0, 5, 2, 3), pour(0, 1, 4), found(1, 3, 3), found(0, 1, 1)])
        second = joined([start(1), come_in(0, 2, 0, 1), found(0, 0, 0)])
        once = answers(first)
        self.assertEqual(once, [1, 0, 1, 0, 1, 1, 1, 2, 1, -74])
        self.assertEqual(answers(first), once)
        self.assertEqual(answers(second), [1, 0, 1, 0, 1, 1])
        self.assertEqual(answers(first), once)

    def test_what_is_given_back_is_its_own(self):
        calls = joined([start(2), come_in(0, 5, 2, 3), found(0, 2, 2)])
        once = answers(calls)
        once.clear()
        self.assertEqual(answers(calls), [1, 0, 1, 0, 1, 1])

    def test_kinds(self):
        calls = [start(2), come_in(0, 5, 2, 3), found(0, 0, 1), found(0, 2, 2), pour(0, 1, 9), pour(0, 1, 2)]
        calls += [narrow(0, 0, 1), narrow(0, 2, 2), has(0), has(2), most_of(0), least_of(1), most_of(), least_of(2)]
        given = answers(joined(calls))
        self.assertIs(list, given.__class__)
        self.assertEqual(given, joined([1, told] for told in (0, 0, -74, 1, -33, 2, -74, 0, 3, -22, 2, 0, 0, -22)))
        for number in given:
            self.assertIs(int, number.__class__)

    def test_a_new_object_each_time(self):
        answered(start(2), come_in(0, 5, 5, 5))
        self.assertEqual(answered(start(0)), [-22])
        self.assertEqual(answered(start(1), pour(0, 1, 1), found(0, 1, 5)), [0, -22, -74])
        self.assertEqual(answered(start(2), narrow(0, 0, 5), has(0), most_of(0, 1)), [0, -22, 0, 0])


if __name__ == "__main__":
    unittest.main()
