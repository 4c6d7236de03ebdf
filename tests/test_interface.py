"""What the interface says of what is handed in and given back."""

import random
import unittest

from tests.helpers import answered, answers, come_in, found, joined, pour, random_example, start


class Unchanging(list):
    """A list that may be read only, so that a change for a while shows too."""

    def refuse(self, *values, **named):
        raise AssertionError("what was handed in is changed")

    append = clear = extend = insert = pop = remove = reverse = sort = refuse
    __setitem__ = __delitem__ = __iadd__ = __imul__ = refuse


class Interface(unittest.TestCase):
    def test_what_is_handed_in_is_not_changed(self):
        chance = random.Random(31)
        for example in range(50):
            calls, told, counted = random_example(chance, 12)
            numbers = joined(calls)
            handed_in = Unchanging(numbers)
            self.assertEqual(answers(handed_in)[1::2], told)
            self.assertEqual(list(handed_in), numbers)

    def test_a_second_time_gives_the_same(self):
        first = joined([start(2), come_in(0, 5, 2, 3), pour(0, 1, 4), found(1, 3, 3), found(0, 1, 1)])
        second = joined([start(1), come_in(0, 2, 0, 1), found(0, 0, 0)])
        once = answers(first)
        self.assertEqual(once, [1, 0, 1, 0, 1, 1, 1, 2, 1, -74])
        self.assertEqual(answers(first), once)
        self.assertEqual(answers(second), [1, 0, 1, 0, 1, 1])
        self.assertEqual(answers(first), once)

    def test_what_is_given_back_is_its_own(self):
        calls = joined([start(2), come_in(0, 5, 2, 3), found(0, 2, 2)])
        once = answers(calls)
        once.clear()
        self.assertEqual(answers(calls), [1, 0, 1, 0, 1, 1])

    def test_kinds(self):
        given = answers(joined([start(2), come_in(0, 5, 2, 3), found(0, 0, 1), found(0, 2, 2), pour(0, 1, 9)]))
        self.assertIs(list, given.__class__)
        for number in given:
            self.assertIs(int, number.__class__)

    def test_a_new_object_each_time(self):
        answered(start(2), come_in(0, 5, 5, 5))
        self.assertEqual(answered(start(0)), [-22])
        self.assertEqual(answered(start(1), pour(0, 1, 1), found(0, 1, 5)), [0, -22, -74])


if __name__ == "__main__":
    unittest.main()
