import unittest

from helper import MOST, begins, come, last, row, told

FAR = [32, 100, 255, 256, 257, 65536, 2147483647, 2147483648, 2147483649, MOST - 1, MOST]


class TakenDays(unittest.TestCase):
    def test_ordinary_days(self):
        self.assertEqual(told(begins(12, 4, 3), begins(7, 2, 5), begins(10, 8, 10)), [[0], [0], [0]])

    def test_both_ends_of_the_round(self):
        self.assertEqual(last(begins(1, 4, 1)), [0])
        self.assertEqual(last(begins(30, 4, 1)), [0])

    def test_both_ends_of_the_seats(self):
        self.assertEqual(last(begins(10, 1, 3)), [0])
        self.assertEqual(last(begins(10, 8, 3)), [0])

    def test_both_ends_of_the_cabins(self):
        self.assertEqual(last(begins(30, 4, 1)), [0])
        self.assertEqual(last(begins(30, 4, 20)), [0])
        self.assertEqual(last(begins(20, 4, 20)), [0])


class RefusedDays(unittest.TestCase):
    def test_round_just_outside(self):
        self.assertEqual(last(begins(0, 4, 1)), [-1])
        self.assertEqual(last(begins(31, 4, 1)), [-1])

    def test_seats_just_outside(self):
        self.assertEqual(last(begins(10, 0, 3)), [-1])
        self.assertEqual(last(begins(10, 9, 3)), [-1])

    def test_cabins_just_outside(self):
        self.assertEqual(last(begins(30, 4, 0)), [-1])
        self.assertEqual(last(begins(30, 4, 21)), [-1])
        self.assertEqual(last(begins(21, 4, 21)), [-1])

    def test_far_outside(self):
        for far in FAR:
            with self.subTest(far=far):
                self.assertEqual(last(begins(far, 4, 1)), [-1])
                self.assertEqual(last(begins(10, far, 3)), [-1])
                self.assertEqual(last(begins(30, 4, far)), [-1])
                self.assertEqual(last(begins(far, far, far)), [-1])

    def test_more_cabins_than_minutes_in_a_round(self):
        for minutes in range(1, 31):
            with self.subTest(round=minutes):
                most = min(minutes, 20)
                self.assertEqual(told(begins(minutes, 4, most), begins(minutes, 4, most + 1)), [[0], [-1]])

    def test_every_day_near_the_ranges(self):
        for minutes in range(33):
            for seats in range(11):
                for cabins in range(33):
                    right = 1 <= minutes <= 30 and 1 <= seats <= 8 and 1 <= cabins <= 20 and cabins <= minutes
                    with self.subTest(round=minutes, seats=seats, cabins=cabins):
                        self.assertEqual(last(begins(minutes, seats, cabins)), [0 if right else -1])


class WhatBeginsLeaves(unittest.TestCase):
    def test_refused_leaves_the_day_as_it_was(self):
        # The numbers that are right would each change the rows, were they taken.
        refused = [begins(0, 2, 1), begins(31, 2, 1), begins(5, 0, 5), begins(5, 9, 5), begins(2, 1, 0),
                   begins(30, 1, 21), begins(1, 8, 2), begins(MOST, 8, 2), begins(3, MOST, 3), begins(3, 8, MOST)]
        ahead = [begins(4, 3, 2), come(9), come(0), come(5), come(1)]
        rows = [[6, 3] + [1] * 6, [6, 3] + [2] * 6, [8, 6, 3, 3, 3, 1, 1, 1, 1, 1]]
        for call in refused:
            with self.subTest(call=call):
                answered = told(*ahead, call, row(1), row(2), row(3), row(5), come(2), row(5))
                self.assertEqual(answered[5:10], [[-1]] + rows + [[-1]])
                # The cabin of minute 4 takes three more.
                self.assertEqual(answered[10:], [[4], [8, 9, 3, 3, 3, 3, 3, 2, 1, 1]])

    def test_refused_leaves_the_new_day_as_it_was(self):
        self.assertEqual(told(begins(5, 8, 6), come(3), come(0), row(2)), [[-1], [0], [1], [1, 2, 2]])

    def test_taken_leaves_no_minutes_told(self):
        answered = told(come(3), come(4), begins(6, 2, 3), row(1), row(0), come(5), row(1))
        self.assertEqual(answered, [[0], [1], [0], [-1], [0, 0], [0], [3, 2, 1, 1, 1]])

    def test_the_same_day_again_leaves_no_minutes_told(self):
        answered = told(begins(6, 2, 3), come(3), begins(6, 2, 3), row(1), row(0), come(1), row(1))
        self.assertEqual(answered, [[0], [0], [0], [-1], [0, 0], [0], [0, 1]])

    def test_taken_holds_the_new_numbers(self):
        calls = [come(20), come(0), come(0), come(0), row(4)]
        self.assertEqual(last(begins(4, 3, 1), begins(4, 5, 1), *calls), [15, 5] + [4] * 15)
        self.assertEqual(last(begins(4, 5, 1), begins(2, 5, 1), *calls), [10, 10] + [4] * 10)
        self.assertEqual(last(begins(4, 5, 1), begins(4, 5, 3), *calls), [5, 15] + [4] * 5)

    def test_after_thirty_minutes_a_new_day_takes_minutes_again(self):
        answered = told(*[come(1)] * 31, begins(1, 1, 1), come(1))
        self.assertEqual(answered[30:], [[-5], [0], [0]])


if __name__ == "__main__":
    unittest.main()
