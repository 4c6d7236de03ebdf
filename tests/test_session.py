"""start, in and pour: promise 1 (its has is among the questions)."""

import unittest

from tests.helpers import LARGEST, MOST_AMOUNT, answered, answers, come_in, found, pour, start

# Fills tank 0 with 5 grains, 2 of them surely marked and 1 that may be.
FIVE = come_in(0, 5, 2, 3)


class Start(unittest.TestCase):
    def test_whole_list(self):
        self.assertEqual(answers([0, 1]), [1, 0])
        self.assertEqual(answers([0, 0]), [1, -22])

    def test_numbers_of_tanks(self):
        calls = [start(0), start(33), start(LARGEST), start(1), start(2), start(32)]
        self.assertEqual(answered(*calls), [-22, -22, -22, 0, 0, 0])

    def test_last_tank_there_is(self):
        self.assertEqual(answered(start(1), come_in(0, 1, 0, 0), come_in(1, 1, 0, 0)), [0, 0, -22])
        self.assertEqual(answered(start(32), come_in(31, 1, 0, 0), come_in(32, 1, 0, 0)), [0, 0, -22])

    def test_tanks_are_empty(self):
        self.assertEqual(answered(start(2), pour(0, 1, 1), pour(1, 0, 1), found(0, 1, 1)), [0, -33, -33, -74])

    def test_again_begins_anew(self):
        calls = [start(3), come_in(2, 4, 4, 4), found(2, 4, 4), start(2), come_in(2, 1, 0, 0), pour(0, 1, 1)]
        self.assertEqual(answered(*calls, come_in(0, 2, 0, 2), found(0, 0, 0)), [0, 0, 1, 0, -22, -33, 0, 1])

    def test_refused_in_the_middle(self):
        calls = [start(2), FIVE, start(0), start(33), pour(0, 1, 5), found(1, 0, 1), found(1, 2, 2), start(0)]
        self.assertEqual(answered(*calls, found(1, 3, 3), found(1, 2, 2)), [0, 0, -22, -22, 1, -74, 2, -22, -74, 3])

    def test_refused_ahead(self):
        self.assertEqual(answered(start(0), start(40), start(1), FIVE), [-22, -22, 0, 0])


class ComeIn(unittest.TestCase):
    def test_whole_list(self):
        self.assertEqual(
            answers([0, 2, 1, 0, 5, 2, 3, 1, 1, 1, 0, 1, 1, 2, 1, 0, 1]), [1, 0, 1, 0, 1, 1, 1, -22])

    def test_refusals(self):
        wrong = [
            come_in(2, 5, 2, 3), come_in(LARGEST, 5, 2, 3),
            come_in(0, 0, 0, 0), come_in(0, MOST_AMOUNT + 1, 0, 0), come_in(0, LARGEST, 0, LARGEST),
            come_in(0, 5, 3, 2), come_in(0, 5, LARGEST, 0), come_in(0, 5, 2, 6), come_in(0, 5, 6, 6),
            come_in(0, 5, 0, LARGEST), come_in(0, 0, 0, 1),
        ]
        for call in wrong:
            with self.subTest(call=call):
                told = answered(start(2), FIVE, call, found(0, 0, 1), found(0, 4, 9), found(0, 2, 2), pour(0, 1, 6))
                self.assertEqual(told, [0, 0, -22, -74, -74, 1, -33])

    def test_amounts(self):
        calls = [start(1), come_in(0, 1, 0, 0), come_in(0, MOST_AMOUNT, 0, MOST_AMOUNT)]
        more = [found(0, MOST_AMOUNT + 1, LARGEST), found(0, MOST_AMOUNT, LARGEST), found(0, 0, MOST_AMOUNT - 1)]
        self.assertEqual(answered(*calls, *more), [0, 0, 1, -74, 2, -74])

    def test_least_is_most_is_amount(self):
        calls = [start(1), come_in(0, 7, 7, 7), found(0, 0, 6), found(0, 8, 8), found(0, 7, 7)]
        self.assertEqual(answered(*calls), [0, 0, -74, -74, 1])

    def test_from_least_to_most(self):
        for marked in range(12):
            told = answered(start(1), come_in(0, 10, 3, 8), found(0, marked, marked))
            self.assertEqual(told[2], 1 if 3 <= marked <= 8 else -74)


class Pour(unittest.TestCase):
    def test_whole_list(self):
        self.assertEqual(
            answers([0, 2, 1, 0, 5, 2, 3, 2, 0, 1, 4, 2, 0, 1, 2, 2, 1, 1, 1, 2, 0, 1, 1]),
            [1, 0, 1, 0, 1, 1, 1, -33, 1, -22, 1, 2])

    def test_refusals(self):
        wrong = [
            (pour(2, 0, 1), -22), (pour(0, 2, 1), -22), (pour(LARGEST, 0, 1), -22), (pour(0, LARGEST, 1), -22),
            (pour(0, 0, 1), -22), (pour(0, 1, 0), -22), (pour(0, 1, 6), -33), (pour(0, 1, LARGEST), -33),
            (pour(1, 0, 1), -33),
        ]
        for call, refusal in wrong:
            with self.subTest(call=call):
                told = answered(start(2), FIVE, call, found(0, 0, 1), found(1, 1, 1), found(0, 3, 3), pour(0, 1, 5))
                self.assertEqual(told, [0, 0, refusal, -74, -74, 1, 2])

    def test_first_refusal_that_fits(self):
        calls = [pour(0, 0, 99), pour(1, 1, 0), pour(2, 0, 99), pour(0, 2, 99), pour(1, 0, 0)]
        self.assertEqual(answered(start(2), FIVE, *calls), [0, 0, -22, -22, -22, -22, -22])

    def test_just_what_there_is(self):
        calls = [start(2), FIVE, pour(0, 1, 6), pour(0, 1, 5), pour(0, 1, 1), pour(1, 0, 5), pour(1, 0, 1)]
        self.assertEqual(answered(*calls), [0, 0, -33, 1, -33, 2, -33])

    def test_more_than_one_coming_in_at_once(self):
        full = come_in(0, MOST_AMOUNT, 0, 0)
        calls = [start(2), full, full, pour(0, 1, 2 * MOST_AMOUNT + 1), pour(0, 1, 2 * MOST_AMOUNT), pour(0, 1, 1)]
        self.assertEqual(answered(*calls), [0, 0, 1, -33, 2, -33])

    def test_what_may_go_along(self):
        # Of 10 grains 4 are marked; 7 are poured: at least 1 marked goes along, as 6 are not.
        for along in range(9):
            told = answered(start(2), come_in(0, 10, 4, 4), pour(0, 1, 7), found(1, along, along))
            self.assertEqual(told[3], 2 if 1 <= along <= 4 else -74)
            told = answered(start(2), come_in(0, 10, 4, 4), pour(0, 1, 7), found(0, along, along))
            self.assertEqual(told[3], 2 if along <= 3 else -74)

    def test_poured_on_what_is_there(self):
        calls = [start(2), come_in(0, 6, 6, 6), come_in(1, 3, 1, 2), pour(0, 1, 4)]
        self.assertEqual(answered(*calls, found(1, 0, 4)), [0, 0, 1, 2, -74])
        self.assertEqual(answered(*calls, found(1, 7, 9)), [0, 0, 1, 2, -74])
        self.assertEqual(answered(*calls, found(1, 5, 5), found(0, 2, 2)), [0, 0, 1, 2, 3, 4])
        self.assertEqual(answered(*calls, found(1, 6, 6), found(0, 0, 1)), [0, 0, 1, 2, 3, -74])


class TheLastOne(unittest.TestCase):
    """256 may be there, of comings in, pourings and findings together."""

    def fill(self, length):
        """Calls that are all taken, of the three kinds in turn."""
        kinds = [come_in(0, 2, 1, 2), pour(0, 1, 1), found(1, 0, LARGEST)]
        return [start(2)] + [kinds[at % 3] for at in range(length)]

    def test_the_256th_and_the_one_behind(self):
        for last in (come_in(1, 1, 0, 1), pour(0, 1, 1), found(0, 0, LARGEST)):
            for behind in (come_in(1, 1, 0, 1), pour(1, 0, 1), found(1, 0, LARGEST)):
                with self.subTest(last=last, behind=behind):
                    told = answered(*self.fill(255), last, behind, behind)
                    self.assertEqual(told, [0] + list(range(256)) + [-28, -28])

    def test_of_one_kind_only(self):
        for call in (come_in(0, 1, 0, 1), found(1, 0, 0)):
            told = answered(start(2), *[call] * 258)
            self.assertEqual(told, [0] + list(range(256)) + [-28, -28])

    def test_refused_ones_do_not_count(self):
        refused = [come_in(0, 0, 0, 0), pour(0, 0, 1), pour(1, 0, 4000), found(0, 2, 1), found(0, 4000, 4000)]
        told = answered(*self.fill(255), *refused * 60, found(0, 0, LARGEST), come_in(0, 1, 0, 0))
        self.assertEqual(told, [0] + list(range(255)) + [-22, -22, -33, -22, -74] * 60 + [255, -28])

    def test_first_refusal_that_fits(self):
        behind = [
            (come_in(2, 1, 0, 0), -22), (come_in(0, 0, 0, 0), -22), (come_in(0, 1, 1, 0), -22),
            (come_in(0, MOST_AMOUNT + 1, 0, 0), -22), (come_in(0, 1, 0, 2), -22),
            (pour(0, 0, 1), -22), (pour(2, 0, 1), -22), (pour(0, 1, 0), -22),
            (pour(0, 1, 4000), -33), (pour(0, 1, 1), -28),
            (found(2, 0, 0), -22), (found(0, 1, 0), -22), (found(0, 4000, 4000), -28), (found(0, 0, LARGEST), -28),
        ]
        told = answered(*self.fill(256), *[call for call, refusal in behind])
        self.assertEqual(told[257:], [refusal for call, refusal in behind])

    def test_start_makes_room_only_if_taken(self):
        told = answered(*self.fill(256), start(33), found(0, 0, LARGEST), start(1), come_in(0, 1, 0, 0))
        self.assertEqual(told[257:], [-22, -28, 0, 0])


if __name__ == "__main__":
    unittest.main()
