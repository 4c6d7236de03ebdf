"""found: promise 2."""

import unittest

from tests.helpers import LARGEST, answered, answers, come_in, found, pour, start


class Found(unittest.TestCase):
    def last(self, *calls):
        return answered(*calls)[-1]

    def test_whole_list(self):
        self.assertEqual(
            answers([0, 1, 1, 0, 5, 1, 4, 3, 0, 2, 3, 3, 0, 4, 9, 3, 0, 3, 9, 3, 0, 0, 2, 3, 0, 0, 3]),
            [1, 0, 1, 0, 1, 1, 1, -74, 1, 2, 1, -74, 1, 3])

    def test_refusals_leave_it_as_it_was(self):
        wrong = [
            (found(2, 0, 5), -22), (found(LARGEST, 0, 5), -22), (found(0, 3, 2), -22), (found(0, LARGEST, 0), -22),
            (found(0, 0, 1), -74), (found(0, 5, 8), -74), (found(0, LARGEST, LARGEST), -74), (found(1, 1, 8), -74),
        ]
        for call, refusal in wrong:
            for marked, told in ((1, -74), (2, 2), (4, 2), (5, -74)):
                with self.subTest(call=call, marked=marked):
                    calls = [start(2), come_in(0, 8, 2, 4), call, pour(0, 1, 8), found(1, marked, marked)]
                    self.assertEqual(answered(*calls), [0, 0, refusal, 1, told])

    def test_first_refusal_that_fits(self):
        self.assertEqual(self.last(start(1), come_in(0, 3, 1, 1), found(0, 9, 8)), -22)
        self.assertEqual(self.last(start(1), come_in(0, 3, 1, 1), found(1, 9, 9)), -22)

    def test_counts_among_the_numbers_answered(self):
        calls = [start(2), found(0, 0, 0), found(1, 0, 7), come_in(0, 3, 0, 3), found(0, 1, 2), pour(0, 1, 1)]
        self.assertEqual(answered(*calls, found(1, 0, 1)), [0, 0, 1, 2, 3, 4, 5])

    def test_empty_tank(self):
        self.assertEqual(answered(start(1), found(0, 0, LARGEST), found(0, 1, LARGEST)), [0, 0, -74])

    def test_above_what_is_in_the_tank(self):
        calls = [start(1), come_in(0, 5, 0, 5)]
        self.assertEqual(self.last(*calls, found(0, 6, 6)), -74)
        self.assertEqual(self.last(*calls, found(0, 6, LARGEST)), -74)
        self.assertEqual(self.last(*calls, found(0, 5, LARGEST)), 1)
        self.assertEqual(self.last(*calls, found(0, 5, LARGEST), found(0, 0, 4)), -74)

    def test_wider_than_what_may_be_tells_nothing(self):
        calls = [start(1), come_in(0, 5, 1, 3), found(0, 0, LARGEST)]
        for marked, told in ((0, -74), (1, 2), (3, 2), (4, -74)):
            self.assertEqual(self.last(*calls, found(0, marked, marked)), told)

    def test_of_a_tank_far_off(self):
        # All 4 marked ones came into tank 0 and went on by one way; those at its end are not elsewhere.
        calls = [start(5), come_in(0, 10, 4, 4), pour(0, 1, 5), pour(1, 2, 5), pour(2, 3, 5), pour(0, 4, 5)]
        self.assertEqual(self.last(*calls, found(3, 3, 3), found(4, 0, 0)), -74)
        self.assertEqual(self.last(*calls, found(3, 3, 3), found(4, 2, 4)), -74)
        self.assertEqual(self.last(*calls, found(3, 3, 3), found(4, 1, 1)), 6)
        self.assertEqual(self.last(*calls, found(4, 4, 4), found(3, 1, 5)), -74)
        self.assertEqual(self.last(*calls, found(4, 4, 4), found(3, 0, 0)), 6)

    def test_of_a_tank_poured_out_of_this_one_long_before(self):
        calls = [start(3), come_in(0, 8, 4, 4), pour(0, 1, 4), come_in(0, 6, 0, 6), pour(0, 2, 2), found(1, 4, 4)]
        more = [pour(0, 2, 8), found(2, 7, 10)]
        self.assertEqual(self.last(*calls, *more), -74)
        self.assertEqual(self.last(*calls, pour(0, 2, 8), found(2, 6, 6)), 6)
        # Found empty of marked ones behind the pouring, tank 0 sends all four of them to tank 1.
        calls = [start(3), come_in(0, 8, 4, 4), pour(0, 1, 4), found(0, 0, 0), pour(1, 2, 4)]
        self.assertEqual(self.last(*calls, found(2, 0, 3)), -74)
        self.assertEqual(self.last(*calls, found(2, 4, 4)), 4)

    def test_of_what_came_in(self):
        calls = [start(2), come_in(0, 5, 0, 5), come_in(1, 5, 0, 5), pour(0, 1, 5)]
        calls += [found(1, 10, 10), pour(1, 0, 3)]
        self.assertEqual(self.last(*calls, found(0, 0, 2)), -74)
        self.assertEqual(self.last(*calls, found(0, 3, 3)), 5)

    def test_then_is_not_now(self):
        # What is found binds the tank as it was then, not what comes in or goes out later.
        calls = [start(2), come_in(0, 4, 0, 4), found(0, 1, 2), come_in(0, 4, 0, 4)]
        self.assertEqual(self.last(*calls, found(0, 6, 6)), 3)
        self.assertEqual(self.last(*calls, found(0, 7, 8)), -74)
        self.assertEqual(self.last(*calls, found(0, 1, 1)), 3)
        self.assertEqual(self.last(*calls, found(0, 0, 0)), -74)
        self.assertEqual(self.last(*calls, found(0, 6, 6), pour(0, 1, 8), found(0, 0, 0)), 5)

    def test_later_findings_tell_of_earlier_times(self):
        # 6 of 8 are found when 4 more came in, so 2 to 4 were there before and the rest stayed out of tank 1.
        calls = [start(2), come_in(0, 6, 0, 4), pour(0, 1, 2), come_in(0, 4, 0, 4), found(0, 8, 8)]
        self.assertEqual(self.last(*calls, found(1, 1, 2)), -74)
        self.assertEqual(self.last(*calls, found(1, 0, 0)), 4)

    def test_two_that_do_not_go_together(self):
        calls = [start(3), come_in(0, 9, 3, 3), pour(0, 1, 4), pour(0, 2, 3)]
        self.assertEqual(self.last(*calls, found(1, 2, 3), found(2, 2, 3)), -74)
        self.assertEqual(self.last(*calls, found(1, 2, 3), found(2, 1, 3)), 4)
        self.assertEqual(self.last(*calls, found(1, 0, 1), found(1, 2, 3)), -74)
        self.assertEqual(self.last(*calls, found(1, 2, 3), found(2, 1, 3), found(0, 1, 2)), -74)
        self.assertEqual(self.last(*calls, found(1, 2, 3), found(2, 1, 3), found(0, 0, 0)), 5)
        # Each pair may be, all three may not.
        for first, second in ((0, 1), (0, 2), (1, 2)):
            self.assertEqual(self.last(*calls, found(first, 0, 0), found(second, 0, 1)), 4)
        self.assertEqual(self.last(*calls, found(0, 0, 0), found(1, 0, 1), found(2, 0, 1)), -74)

    def test_nothing_found_where_some_must_be(self):
        calls = [start(2), come_in(0, 5, 3, 4), pour(0, 1, 4)]
        self.assertEqual(self.last(*calls, found(1, 0, 0)), -74)
        self.assertEqual(self.last(*calls, found(1, 0, 1)), -74)
        self.assertEqual(self.last(*calls, found(1, 2, 2)), 2)
        self.assertEqual(self.last(*calls, found(0, 0, 0)), 2)
        self.assertEqual(self.last(*calls, found(1, 2, 2), found(0, 0, 0)), -74)

    def test_refused_often_and_then_not(self):
        # What is learned from a refusal must not outlast what comes in, goes out or is found.
        calls = [start(2), come_in(0, 5, 1, 2), found(0, 3, 3), found(0, 0, 0), found(0, 3, 5)]
        self.assertEqual(answered(*calls, come_in(0, 1, 1, 1), found(0, 3, 3)), [0, 0, -74, -74, -74, 1, 2])
        self.assertEqual(answered(*calls, pour(0, 1, 5), found(0, 0, 0)), [0, 0, -74, -74, -74, 1, 2])
        calls = [start(2), come_in(0, 5, 1, 2), pour(0, 1, 1), found(1, 2, 2), pour(0, 1, 4), found(1, 2, 2)]
        self.assertEqual(answered(*calls, found(1, 1, 1)), [0, 0, 1, -74, 2, 3, -74])
        calls = [start(2), come_in(0, 4, 2, 2), pour(0, 1, 2), found(0, 3, 3), found(1, 2, 2), found(0, 1, 2)]
        self.assertEqual(answered(*calls, found(0, 0, 0)), [0, 0, 1, -74, 2, -74, 3])

    def test_again_the_same(self):
        calls = [start(1), come_in(0, 9, 2, 7)] + [found(0, 4, 5)] * 3 + [found(0, 6, 6), found(0, 4, 4), found(0, 5, 5)]
        self.assertEqual(answered(*calls), [0, 0, 1, 2, 3, -74, 4, -74])


if __name__ == "__main__":
    unittest.main()
