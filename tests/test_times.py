import unittest

from helper import MOST, begins, come, ends, fewest, last, row, times, told


class FirstMinutes(unittest.TestCase):
    def test_the_new_day(self):
        self.assertEqual(last(times()), [1, 0])

    def test_one_cabin(self):
        for minutes in range(1, 31):
            with self.subTest(round=minutes):
                self.assertEqual(last(begins(minutes, 3, 1), times()), [1, 0])

    def test_as_many_cabins_as_minutes_in_a_round(self):
        for minutes in range(1, 21):
            with self.subTest(round=minutes):
                self.assertEqual(last(begins(minutes, 3, minutes), times()), [minutes] + list(range(minutes)))

    def test_evenly_divided(self):
        self.assertEqual(last(begins(12, 1, 4), times()), [4, 0, 3, 6, 9])
        self.assertEqual(last(begins(30, 1, 15), times()), [15] + list(range(0, 30, 2)))

    def test_not_evenly_divided(self):
        self.assertEqual(last(begins(3, 1, 2), times()), [2, 0, 1])
        self.assertEqual(last(begins(5, 1, 3), times()), [3, 0, 1, 3])
        self.assertEqual(last(begins(7, 1, 3), times()), [3, 0, 2, 4])
        self.assertEqual(last(begins(10, 1, 6), times()), [6, 0, 1, 3, 5, 6, 8])
        self.assertEqual(last(begins(30, 1, 4), times()), [4, 0, 7, 15, 22])
        self.assertEqual(last(begins(29, 1, 7), times()), [7, 0, 4, 8, 12, 16, 20, 24])

    def test_20_cabins_on_a_round_of_30(self):
        self.assertEqual(last(begins(30, 8, 20), times()),
                         [20, 0, 1, 3, 4, 6, 7, 9, 10, 12, 13, 15, 16, 18, 19, 21, 22, 24, 25, 27, 28])

    def test_20_cabins_on_a_round_of_21(self):
        self.assertEqual(last(begins(21, 8, 20), times()), [20] + list(range(20)))

    def test_every_round_and_number_of_cabins(self):
        for minutes in range(1, 31):
            for cabins in range(1, min(20, minutes) + 1):
                # The last minute whose cabins-fold is not above i rounds is i rounds by the cabins, rounded down.
                right = [max(minute for minute in range(minutes) if minute * cabins <= cabin * minutes)
                         for cabin in range(cabins)]
                with self.subTest(round=minutes, cabins=cabins):
                    self.assertEqual(last(begins(minutes, 2, cabins), times()), [cabins] + right)


class AfterOtherCalls(unittest.TestCase):
    def test_after_a_refused_begins(self):
        self.assertEqual(told(begins(5, 1, 6), times()), [[-1], [1, 0]])
        for refused in (begins(0, 1, 1), begins(31, 1, 2), begins(9, 0, 2), begins(9, 9, 2), begins(9, 1, 0),
                        begins(30, 1, 21), begins(2, 1, 3), begins(MOST, MOST, MOST)):
            with self.subTest(refused=refused):
                self.assertEqual(told(begins(8, 2, 3), refused, times())[1:], [[-1], [3, 0, 2, 5]])

    def test_after_a_begins_that_was_taken(self):
        answered = told(begins(8, 2, 3), times(), begins(9, 2, 4), times(), begins(1, 1, 1), times())
        self.assertEqual(answered, [[0], [3, 0, 2, 5], [0], [4, 0, 2, 4, 6], [0], [1, 0]])

    def test_what_is_told_of_minutes_plays_no_part(self):
        answered = told(begins(8, 2, 3), come(20), times(), come(21), times(), *[come(0)] * 30, times())
        self.assertEqual([answered[2], answered[4], answered[-1]], [[3, 0, 2, 5]] * 3)

    def test_times_changes_nothing(self):
        calls = [begins(8, 2, 3), come(5), row(1), come(2), row(2), ends(), fewest(9), come(1), ends()]
        between = [call for written in calls for call in (times(), written)]
        self.assertEqual(told(*between)[1::2], told(*calls))


if __name__ == "__main__":
    unittest.main()
