"""narrow: promise 3."""

import unittest

from tests.helpers import (
    LARGEST, MOST_AMOUNT, answered, answers, come_in, found, has, least_of, most_of, narrow, pour, questions, start,
    told_by)


class Narrow(unittest.TestCase):
    def last(self, *calls):
        return answered(*calls)[-1]

    def range_of(self, tanks, *calls):
        return told_by(calls, [least_of(*tanks), most_of(*tanks)])

    def test_whole_list(self):
        self.assertEqual(
            answers([0, 1, 1, 0, 9, 2, 6, 4, 0, 4, 9, 6, 1, 7, 1, 4, 0, 0, 3, 4, 1, 0, 9, 4, 0, 5, 4, 4, 0, 0, 9]),
            [1, 0, 1, 0, 1, 0, 1, 6, 1, 4, 1, -74, 1, -22, 1, -22, 1, 0])

    def test_greater_least_and_lesser_most(self):
        calls = [start(1), come_in(0, 9, 2, 6)]
        for ends, left in (
            ((0, 9), [2, 6]), ((2, 6), [2, 6]), ((3, 9), [3, 6]), ((0, 5), [2, 5]), ((4, 4), [4, 4]), ((6, 9), [6, 6]),
            ((0, 2), [2, 2]), ((0, LARGEST), [2, 6]), ((6, LARGEST), [6, 6]),
        ):
            with self.subTest(ends=ends):
                self.assertEqual(self.last(*calls, narrow(0, *ends)), 0)
                self.assertEqual(self.range_of([0], *calls, narrow(0, *ends)), left)

    def test_none_left(self):
        calls = [start(1), come_in(0, 9, 2, 6)]
        for ends in ((0, 0), (0, 1), (7, 7), (7, 9), (10, 10), (7, LARGEST), (LARGEST, LARGEST)):
            with self.subTest(ends=ends):
                self.assertEqual(self.last(*calls, narrow(0, *ends)), -74)
                self.assertEqual(self.range_of([0], *calls, narrow(0, *ends)), [2, 6])

    def test_one_after_another(self):
        calls = [start(1), come_in(0, 9, 0, 9), narrow(0, 2, 7), narrow(0, 0, 5), narrow(0, 6, 9), narrow(0, 4, 8)]
        self.assertEqual(answered(*calls), [0, 0, 0, 0, -74, 0])
        self.assertEqual(self.range_of([0], *calls), [4, 5])

    def test_wrong_numbers(self):
        calls = [start(2), come_in(0, 9, 2, 6), pour(0, 1, 3), found(0, 1, 6), come_in(1, 4, 0, 4)]
        wrong = [
            narrow(1, 0, 9), narrow(2, 0, 9), narrow(4, 0, 9), narrow(5, 0, 9), narrow(LARGEST, 0, LARGEST),
            narrow(0, 3, 2), narrow(0, LARGEST, 0), narrow(3, 1, 0)]
        self.assertEqual(told_by(calls, wrong), [-22] * len(wrong))
        self.assertEqual(told_by(calls, [narrow(0, 2, 3), narrow(3, 1, 1)]), [0, 0])

    def test_number_of_a_finding_or_a_pouring(self):
        # Findings and pourings have numbers of their own, so those of later comings in are the higher.
        calls = [start(2), found(0, 0, 0), come_in(0, 5, 0, 5), found(0, 0, 5), pour(0, 1, 2), come_in(1, 5, 0, 5)]
        behind = [narrow(which, 1, 4) for which in range(6)]
        self.assertEqual(told_by(calls, behind), [-22, 0, -22, -22, 0, -22])
        self.assertEqual(self.range_of([0, 1], *calls, narrow(1, 5, 5)), [5, 10])
        self.assertEqual(self.range_of([0, 1], *calls, narrow(4, 5, 5), narrow(1, 0, 1)), [5, 6])

    def test_refused_calls_have_no_number(self):
        calls = [start(1), come_in(0, 0, 0, 0), come_in(0, 5, 0, 5), found(0, 6, 6), pour(0, 0, 1), come_in(0, 3, 0, 3)]
        self.assertEqual(told_by(calls, [narrow(which, 0, 3) for which in range(4)]), [0, 0, -22, -22])

    def test_nothing_has_come_in(self):
        self.assertEqual(answered(start(1), narrow(0, 0, 0), narrow(0, 1, 0)), [0, -22, -22])

    def test_numbers_begin_anew_with_a_start(self):
        calls = [start(1), come_in(0, 5, 0, 5), come_in(0, 5, 0, 5), start(1), narrow(0, 0, 5), come_in(0, 2, 1, 2)]
        calls += [narrow(1, 0, 5), narrow(0, 0, 0), narrow(0, 2, 2), most_of(0)]
        self.assertEqual(answered(*calls), [0, 0, 1, 0, -22, 0, -22, -74, 0, 2])
        calls = [start(1), come_in(0, 5, 0, 5), start(0), narrow(0, 1, 2), most_of(0)]
        self.assertEqual(answered(*calls), [0, 0, -22, 0, 2])

    def test_first_refusal_that_fits(self):
        calls = [start(1), come_in(0, 5, 1, 2), found(0, 1, 2)]
        self.assertEqual(told_by(calls, [narrow(1, 9, 9), narrow(0, 9, 8), narrow(2, 9, 8)]), [-22, -22, -22])

    def test_does_not_count(self):
        calls = [start(1), come_in(0, 5, 1, 4), narrow(0, 1, 3), narrow(0, 9, 9), come_in(0, 5, 1, 4), found(0, 0, 9)]
        self.assertEqual(answered(*calls), [0, 0, 0, -74, 1, 2])

    def test_behind_the_256th(self):
        calls = [start(1)] + [come_in(0, 2, 0, 2)] * 256
        behind = [narrow(255, 1, 1), narrow(0, 2, 2), narrow(0, 0, 1), narrow(256, 0, 2), come_in(0, 2, 0, 2)]
        self.assertEqual(told_by(calls, behind), [0, 0, -74, -22, -28])
        self.assertEqual(self.range_of([0], *calls, *behind), [3, 511])

    def test_which_came_in_but_no_longer_is_where_it_came(self):
        calls = [start(3), come_in(0, 6, 0, 6), pour(0, 1, 6), pour(1, 2, 6)]
        self.assertEqual(self.range_of([2], *calls, narrow(0, 2, 5)), [2, 5])
        self.assertEqual(self.range_of([0, 1], *calls, narrow(0, 2, 5)), [0, 0])

    def test_tells_of_one_coming_in_alone(self):
        calls = [start(2), come_in(0, 6, 0, 6), come_in(0, 4, 0, 4), come_in(1, 5, 0, 5), narrow(1, 3, 3)]
        self.assertEqual(self.range_of([0], *calls), [3, 9])
        self.assertEqual(self.range_of([1], *calls), [0, 5])
        self.assertEqual(told_by(calls, [narrow(0, 6, 6), narrow(2, 0, 0), narrow(1, 2, 2)]), [0, 0, -74])

    def test_what_was_found_bounds_it(self):
        # 7 of 10 were found: 3 of them at least are of the first 6, and 1 at least is of the other 4.
        calls = [start(2), come_in(0, 6, 0, 6), come_in(0, 4, 0, 4), found(0, 7, 7)]
        for marked in range(8):
            self.assertEqual(self.last(*calls, narrow(0, marked, marked)), 0 if 3 <= marked <= 6 else -74)
            self.assertEqual(self.last(*calls, narrow(1, marked, marked)), 0 if 1 <= marked <= 4 else -74)
        self.assertEqual(told_by(calls, [narrow(0, 0, 4), narrow(1, 0, 2), narrow(1, 3, 4)]), [0, -74, 0])
        self.assertEqual(told_by(calls, [narrow(0, 0, 2), narrow(0, 0, 3), narrow(1, 0, 3)]), [-74, 0, -74])

    def test_what_was_found_far_off_bounds_it(self):
        calls = [start(3), come_in(0, 6, 0, 6), pour(0, 1, 4), come_in(1, 3, 0, 3), pour(1, 2, 5), found(2, 5, 5)]
        # 5 of the 7 in tank 1 were marked: 2 at least came from tank 0 and 1 at least came in there.
        for marked in range(8):
            self.assertEqual(self.last(*calls, narrow(0, marked, marked)), 0 if 2 <= marked <= 6 else -74)
            self.assertEqual(self.last(*calls, narrow(2, marked, marked)), 0 if 1 <= marked <= 3 else -74)
        self.assertEqual(told_by(calls, [narrow(0, 0, 2), narrow(2, 0, 2), least_of(0), most_of(0)]), [0, -74, 0, 0])

    def test_bounds_what_may_be_found(self):
        calls = [start(2), come_in(0, 6, 0, 6), pour(0, 1, 3), narrow(0, 5, 5)]
        told = told_by(calls, [found(0, 0, 1), found(1, 2, 2), found(0, 2, 2), found(0, 3, 3)])
        self.assertEqual(told, [-74, 2, -74, 3])

    def test_heard_later_than_what_was_found_then(self):
        # From 2 to 3 were found before the second came in; that is not undone by what is heard later.
        calls = [start(1), come_in(0, 6, 0, 6), found(0, 2, 3), come_in(0, 6, 0, 6)]
        self.assertEqual(told_by(calls, [narrow(0, 4, 6), narrow(0, 3, 6), narrow(2, 6, 6)]), [-74, 0, 0])
        self.assertEqual(self.range_of([0], *calls, narrow(0, 3, 6), narrow(2, 6, 6)), [9, 9])

    def test_wider_than_what_may_be_tells_nothing(self):
        calls = [start(2), come_in(0, 9, 2, 6), pour(0, 1, 5), come_in(1, 4, 1, 3), found(1, 2, 5)]
        before = told_by(calls, questions(2))
        for ends in ((0, LARGEST), (2, 6), (0, 9), (1, 7)):
            self.assertEqual(told_by(calls + [narrow(0, *ends)], questions(2)), before)

    def test_most_may_be_above_the_amount(self):
        calls = [start(1), come_in(0, 5, 0, 5), narrow(0, 4, 6)]
        self.assertEqual(told_by(calls, [least_of(0), most_of(0), has(0)]), [4, 5, 5])

    def test_refused_often_and_then_not(self):
        # What is learned from a refusal must hold behind all that comes later.
        calls = [start(2), come_in(0, 6, 0, 6), come_in(0, 4, 0, 4), found(0, 7, 7)]
        refused = [narrow(0, 0, 2), narrow(1, 0, 0), narrow(0, 0, 1), narrow(0, 7, 9), narrow(1, 5, 9)]
        later = [come_in(0, 5, 0, 5), pour(0, 1, 8), found(1, 2, 8), come_in(1, 5, 0, 5), pour(1, 0, 13)]
        told = told_by(calls, refused * 2 + later + refused)
        self.assertEqual(told, [-74] * 10 + [3, 4, 5, 6, 7] + [-74] * 5)
        behind = [narrow(0, 3, 3), narrow(1, 4, 4), narrow(3, 5, 5), narrow(6, 0, 0)]
        self.assertEqual(told_by(calls + refused + later, behind), [0, 0, 0, 0])
        self.assertEqual(self.range_of([0], *calls, *refused, *later, *behind), [12, 12])
        self.assertEqual(self.last(*calls, *refused, *later, *behind, has(0)), 20)

    def test_largest_amounts(self):
        calls = [start(2), come_in(0, MOST_AMOUNT, 0, MOST_AMOUNT), pour(0, 1, MOST_AMOUNT - 1)]
        heard = [narrow(0, MOST_AMOUNT, LARGEST), least_of(1), narrow(0, 0, MOST_AMOUNT - 1), least_of(0)]
        self.assertEqual(told_by(calls, heard), [0, MOST_AMOUNT - 1, -74, 1])


if __name__ == "__main__":
    unittest.main()
