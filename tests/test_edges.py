"""Each edge that the document names under 'Where it usually breaks'."""

import unittest

from tests.helpers import (
    LARGEST, answered, come_in, found, has, least_of, most_of, narrow, pour, questions, start, told_by)


class WhereItUsuallyBreaks(unittest.TestCase):
    def range_of(self, tanks, *calls):
        return told_by(calls, [least_of(*tanks), most_of(*tanks)])

    def test_a_finding_that_tells_of_a_tank_far_off(self):
        # 5 of the 12 are marked; 6 went out of tank 0 long before and on, by tank 1, to tanks 2 and 3.
        calls = [start(4), come_in(0, 12, 5, 5), pour(0, 1, 6), pour(1, 2, 6), come_in(0, 3, 0, 0), pour(2, 3, 4)]
        self.assertEqual(self.range_of([2, 3], *calls), [0, 5])
        self.assertEqual(self.range_of([2, 3], *calls, found(0, 4, 4)), [1, 1])
        self.assertEqual(self.range_of([3], *calls, found(0, 4, 4)), [0, 1])
        self.assertEqual(self.range_of([3], *calls, found(0, 0, 0)), [3, 4])
        self.assertEqual(self.range_of([2], *calls, found(0, 0, 1)), [0, 2])
        self.assertEqual(self.range_of([0], *calls, found(3, 4, 4)), [0, 1])
        self.assertEqual(self.range_of([1], *calls, found(0, 0, 0)), [0, 0])

    def test_it_tells_through_what_was_mixed_in_between(self):
        calls = [start(3), come_in(0, 8, 4, 4), pour(0, 1, 4), come_in(1, 4, 0, 4), pour(1, 2, 4), pour(0, 1, 2)]
        self.assertEqual(self.range_of([0, 1, 2], *calls), [4, 8])
        # If none of those that came into tank 1 is marked, the 4 in tank 2 are all there are.
        told = told_by(calls, [found(2, 4, 4), narrow(2, 0, 0), least_of(0, 1), most_of(0, 1), most_of(0)])
        self.assertEqual(told, [5, 0, 0, 0, 0])

    def test_a_finding_that_tells_what_came_in(self):
        calls = [start(2), come_in(0, 5, 0, 5), come_in(0, 4, 0, 4), pour(0, 1, 9), found(1, 8, 9)]
        for which, least, most in ((0, 4, 5), (1, 3, 4)):
            self.assertEqual(answered(*calls, narrow(which, 0, least - 1))[-1], -74)
            self.assertEqual(answered(*calls, narrow(which, 0, least))[-1], 0)
            self.assertEqual(answered(*calls, narrow(which, most, LARGEST))[-1], 0)
            self.assertEqual(answered(*calls, narrow(which, most + 1, LARGEST))[-1], -74)
        self.assertEqual(self.range_of([1], *calls, narrow(0, 4, 4)), [8, 8])
        self.assertEqual(self.range_of([1], *calls, narrow(0, 5, 5)), [8, 9])

    def test_two_findings_that_do_not_go_together(self):
        calls = [start(3), come_in(0, 9, 3, 3), pour(0, 1, 3), pour(0, 2, 3)]
        self.assertEqual(told_by(calls, [found(1, 2, 3)]), [3])
        self.assertEqual(told_by(calls, [found(2, 2, 3)]), [3])
        before = told_by(calls + [found(1, 2, 3)], questions(3))
        self.assertEqual(told_by(calls, [found(1, 2, 3), found(2, 2, 3)]), [3, -74])
        self.assertEqual(told_by(calls + [found(1, 2, 3), found(2, 2, 3)], questions(3)), before)
        self.assertEqual(told_by(calls, [found(1, 2, 3), found(2, 2, 3), found(2, 1, 1), most_of(0)]), [3, -74, 4, 0])

    def test_two_findings_of_one_tank_that_do_not_go_together(self):
        calls = [start(1), come_in(0, 9, 0, 9), found(0, 2, 4), found(0, 5, 7), found(0, 0, 1), found(0, 4, 7)]
        self.assertEqual(answered(*calls, least_of(0), most_of(0)), [0, 0, 1, -74, -74, 2, 4, 4])

    def test_the_number_of_a_pouring_narrowed(self):
        calls = [start(2), come_in(0, 5, 1, 4), pour(0, 1, 3), pour(1, 0, 2), come_in(1, 2, 0, 2)]
        before = told_by(calls, questions(2))
        for which in (1, 2):
            for ends in ((0, LARGEST), (1, 1), (0, 0), (2, 1)):
                self.assertEqual(told_by(calls, [narrow(which, *ends)]), [-22])
                self.assertEqual(told_by(calls + [narrow(which, *ends)], questions(2)), before)
        self.assertEqual(told_by(calls, [narrow(0, 1, 4), narrow(3, 0, 2)]), [0, 0])

    def test_the_number_of_a_finding_narrowed(self):
        calls = [start(1), come_in(0, 5, 1, 4), found(0, 1, 3)]
        self.assertEqual(told_by(calls, [narrow(1, 1, 3), narrow(1, 0, LARGEST), most_of(0)]), [-22, -22, 3])

    def test_pouring_from_more_than_there_is(self):
        calls = [start(2), come_in(0, 5, 1, 4), pour(0, 1, 2)]
        before = told_by(calls, questions(2))
        for call in (pour(0, 1, 4), pour(1, 0, 3), pour(0, 1, LARGEST)):
            self.assertEqual(told_by(calls, [call]), [-33])
            self.assertEqual(told_by(calls + [call], questions(2)), before)
        self.assertEqual(told_by(calls, [pour(0, 1, 3), has(0), has(1), pour(0, 1, 1)]), [2, 0, 5, -33])

    def test_nothing_found_where_some_must_be(self):
        calls = [start(2), come_in(0, 6, 4, 5), pour(0, 1, 4)]
        before = told_by(calls, questions(2))
        self.assertEqual(self.range_of([1], *calls), [2, 4])
        for most in (0, 1):
            self.assertEqual(told_by(calls, [found(1, 0, most)]), [-74])
            self.assertEqual(told_by(calls + [found(1, 0, most)], questions(2)), before)
        self.assertEqual(told_by(calls, [found(0, 0, 0), found(1, 0, 3), least_of(1), most_of(1)]), [2, -74, 4, 4])

    def test_nothing_found_where_none_must_be(self):
        calls = [start(2), come_in(0, 6, 0, 5), pour(0, 1, 4), found(1, 0, 0)]
        self.assertEqual(self.range_of([0], *calls), [0, 2])
        self.assertEqual(told_by(calls, [narrow(0, 3, 5), narrow(0, 2, 5), least_of(0)]), [-74, 0, 2])

    def test_the_256th(self):
        kinds = [come_in(0, 2, 0, 2), pour(0, 1, 1), found(1, 0, LARGEST)]
        calls = [start(2)] + [kinds[at % 3] for at in range(255)]
        for last in (come_in(1, 3, 1, 3), pour(0, 1, 1), found(0, 0, 50)):
            self.assertEqual(told_by(calls, [last]), [255])
            before = told_by(calls + [last], questions(2))
            for behind in (come_in(1, 3, 1, 3), pour(0, 1, 1), found(0, 0, 50)):
                self.assertEqual(told_by(calls + [last], [behind]), [-28])
                self.assertEqual(told_by(calls + [last, behind], questions(2)), before)
        # What is heard does not count, so it is still taken.
        self.assertEqual(told_by(calls + [found(0, 0, LARGEST)], [narrow(252, 1, 1), narrow(255, 1, 1)]), [0, -22])


if __name__ == "__main__":
    unittest.main()
