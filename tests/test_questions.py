"""has (promise 1), most and least (promise 4)."""

import unittest

from tests.helpers import (
    LARGEST, MOST_AMOUNT, answered, answers, come_in, found, has, least_of, most_of, narrow, pour, questions, start,
    told_by)


class Has(unittest.TestCase):
    def test_whole_list(self):
        self.assertEqual(
            answers([0, 2, 5, 0, 1, 0, 7, 1, 2, 5, 0, 2, 0, 1, 3, 5, 0, 5, 1, 5, 2]),
            [1, 0, 1, 0, 1, 0, 1, 7, 1, 1, 1, 4, 1, 3, 1, -22])

    def test_no_such_tank(self):
        for tanks in (1, 2, 31, 32):
            told = answered(start(tanks), has(tanks - 1), has(tanks), has(tanks + 1), has(LARGEST))
            self.assertEqual(told, [0, 0, -22, -22, -22])

    def test_what_came_in_and_was_poured(self):
        calls = [start(3), come_in(0, 5, 0, 5), come_in(0, 4, 4, 4), come_in(2, 1, 0, 0), pour(0, 2, 6), pour(2, 1, 7)]
        self.assertEqual(told_by(calls, [has(0), has(1), has(2)]), [3, 7, 0])

    def test_all_grains_not_the_marked_ones(self):
        calls = [start(1), come_in(0, 5, 1, 2), found(0, 2, 2), narrow(0, 2, 2)]
        self.assertEqual(told_by(calls, [has(0)]), [5])

    def test_refused_calls_bring_no_grains(self):
        calls = [start(2), come_in(0, 5, 1, 2)]
        refused = [come_in(0, 5, 6, 6), come_in(2, 5, 1, 2), pour(0, 1, 6), pour(0, 0, 3), found(0, 3, 5)]
        refused += [narrow(0, 3, 5), start(0), start(33)]
        self.assertEqual(told_by(calls, refused + [has(0), has(1)])[len(refused):], [5, 0])

    def test_more_than_one_coming_in_can_bring(self):
        calls = [start(2)] + [come_in(1, MOST_AMOUNT, 0, 0)] * 256
        self.assertEqual(told_by(calls, [has(1), has(0)]), [256 * MOST_AMOUNT, 0])

    def test_start_empties_all(self):
        calls = [start(2), come_in(0, 5, 1, 2), start(2), has(0), come_in(1, 2, 0, 0), start(1), has(0), has(1)]
        self.assertEqual(answered(*calls), [0, 0, 0, 0, 0, 0, 0, -22])


class MostAndLeast(unittest.TestCase):
    def test_whole_list(self):
        self.assertEqual(
            answers([0, 2, 1, 0, 9, 2, 5, 2, 0, 1, 6, 6, 1, 7, 1, 6, 2, 7, 2, 6, 3, 7, 3, 6, 4, 7, 4]),
            [1, 0, 1, 0, 1, 1, 1, 3, 1, 0, 1, 5, 1, 0, 1, 5, 1, 2, 1, -22, 1, -22])

    def test_no_such_tank(self):
        calls = [start(3), come_in(0, 5, 1, 2)]
        for chosen in (0b1000, 0b1001, 0b1111, 1 << 31, LARGEST):
            self.assertEqual(told_by(calls, [[6, chosen], [7, chosen]]), [-22, -22])
        for chosen in (0b001, 0b011, 0b111):
            self.assertEqual(told_by(calls, [[6, chosen], [7, chosen]]), [2, 1])

    def test_first_and_last_tank(self):
        self.assertEqual(answered(start(1), [6, 1], [7, 1], [6, 2], [7, 2]), [0, 0, 0, -22, -22])
        calls = [start(31), [6, 1 << 30], [6, 1 << 31], [7, 1 << 31], [7, LARGEST]]
        self.assertEqual(answered(*calls), [0, 0, -22, -22, -22])
        calls = [start(32), come_in(31, 9, 4, 7), [6, 1 << 31], [7, 1 << 31], [6, LARGEST], [7, LARGEST]]
        self.assertEqual(answered(*calls, [6, LARGEST >> 1], [7, LARGEST >> 1]), [0, 0, 7, 4, 7, 4, 0, 0])

    def test_no_tank(self):
        calls = [start(2), come_in(0, 5, 3, 4)]
        self.assertEqual(told_by(calls, [most_of(), least_of()]), [0, 0])

    def test_empty_tanks(self):
        self.assertEqual(set(told_by([start(3)], questions(3))), {0})

    def test_what_came_in(self):
        calls = [start(2), come_in(0, 5, 1, 4), come_in(0, 3, 2, 3), come_in(1, 7, 0, 6)]
        asked = [most_of(0), least_of(0), most_of(1), least_of(1), most_of(0, 1), least_of(0, 1)]
        self.assertEqual(told_by(calls, asked), [7, 3, 6, 0, 13, 3])

    def test_none_or_all_marked(self):
        asked = [most_of(0), least_of(0), most_of(1), least_of(1), most_of(0, 1), least_of(0, 1)]
        calls = [start(2), come_in(0, 5, 5, 5), pour(0, 1, 2)]
        self.assertEqual(told_by(calls, asked), [3, 3, 2, 2, 5, 5])
        calls = [start(2), come_in(0, 5, 0, 0), pour(0, 1, 2)]
        self.assertEqual(told_by(calls, asked), [0] * 6)

    def test_nobody_knows_how_they_mix(self):
        # 10 grains, 4 marked; 7 go: of the others 6 at most, so 1 marked one at least.
        calls = [start(2), come_in(0, 10, 4, 4), pour(0, 1, 7)]
        asked = [most_of(0), least_of(0), most_of(1), least_of(1), most_of(0, 1), least_of(0, 1)]
        self.assertEqual(told_by(calls, asked), [3, 0, 4, 1, 4, 4])

    def test_together_is_not_one_by_one(self):
        # Each of three tanks may have both marked ones, but all of them together have no more than both.
        calls = [start(3), come_in(0, 9, 2, 2), pour(0, 1, 3), pour(0, 2, 3)]
        asked = [most_of(0), most_of(1), most_of(2), most_of(0, 1), most_of(1, 2), most_of(0, 2), most_of(0, 1, 2)]
        self.assertEqual(told_by(calls, asked), [2] * 7)
        asked = [least_of(0), least_of(1), least_of(2), least_of(0, 1), least_of(1, 2), least_of(0, 1, 2)]
        self.assertEqual(told_by(calls, asked), [0, 0, 0, 0, 0, 2])

    def test_asking_changes_nothing(self):
        calls = [start(2), come_in(0, 9, 2, 5), pour(0, 1, 4), come_in(1, 3, 0, 2), pour(1, 0, 5), found(0, 2, 6)]
        asked = questions(2)
        once = told_by(calls, asked)
        self.assertEqual(told_by(calls, asked * 3), once * 3)
        self.assertEqual(told_by(calls, asked[::-1]), once[::-1])

    def test_asking_does_not_count(self):
        calls = [start(1), has(0), most_of(0), come_in(0, 5, 1, 2), least_of(0), has(0), most_of(0), found(0, 1, 2)]
        self.assertEqual(answered(*calls), [0, 0, 0, 0, 1, 5, 2, 1])

    def test_asked_again_when_more_may_be(self):
        calls = [start(2), come_in(0, 5, 1, 2), most_of(0), least_of(0), come_in(0, 5, 2, 4), most_of(0), least_of(0)]
        calls += [pour(0, 1, 9), most_of(0), least_of(0), most_of(1), least_of(1)]
        self.assertEqual(answered(*calls), [0, 0, 2, 1, 1, 6, 3, 2, 1, 0, 6, 2])

    def test_asked_again_when_less_may_be(self):
        calls = [start(2), come_in(0, 5, 1, 4), most_of(0), least_of(0), found(0, 2, 9), most_of(0), least_of(0)]
        calls += [narrow(0, 0, 3), most_of(0), least_of(0), found(0, 4, 4), found(0, 0, 1), most_of(0), least_of(0)]
        self.assertEqual(answered(*calls), [0, 0, 4, 1, 1, 4, 2, 0, 3, 2, -74, -74, 3, 2])

    def test_behind_the_256th(self):
        calls = [start(2)] + [come_in(0, 2, 0, 1)] * 255 + [pour(0, 1, 510)]
        asked = [has(0), has(1), most_of(0), most_of(1), least_of(0, 1), most_of(2), has(2)]
        self.assertEqual(told_by(calls, asked), [0, 510, 0, 255, 0, -22, -22])


if __name__ == "__main__":
    unittest.main()
