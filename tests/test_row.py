import random
import unittest

from helper import MOST, begins, cabin_goes_by, check_each, come, last, row, rows_step_by_step, told


def gone_behind_each_minute(round_minutes, seats, cabins, minutes):
    """How many have gone behind 1, 2 .. minutes, if 20 come in each of the first two."""
    calls = [begins(round_minutes, seats, cabins), come(20), come(20)] + [come(0)] * (minutes - 2)
    rows = told(*calls, *[row(minute) for minute in range(1, minutes + 1)])[len(calls):]
    return [answer[1] for answer in rows]


class HowManyMinutes(unittest.TestCase):
    def test_0_minutes(self):
        self.assertEqual(last(row(0)), [0, 0])
        self.assertEqual(last(begins(5, 2, 2), row(0)), [0, 0])
        self.assertEqual(last(come(20), come(20), row(0)), [0, 0])

    def test_fewer_just_as_many_and_one_more(self):
        answered = told(begins(3, 1, 1), come(2), come(1), row(1), row(2), row(3))
        self.assertEqual(answered[3:], [[1, 1, 1], [2, 1, 2, 1], [-1]])

    def test_one_more_than_none(self):
        self.assertEqual(last(row(1)), [-1])

    def test_far_more(self):
        for minutes in (2, 30, 31, 200, 256, 257, 65537, 2147483648, MOST - 1, MOST):
            with self.subTest(minutes=minutes):
                self.assertEqual(last(come(4), row(minutes)), [-1])

    def test_30_and_31_of_30(self):
        answered = told(*[come(1)] * 30, row(30), row(31))
        self.assertEqual(answered[30:], [[0, 30], [-1]])

    def test_row_changes_nothing(self):
        ahead = [begins(4, 2, 3), come(7), come(1), come(0)]
        answered = told(*ahead, row(3), row(4), row(1), row(3), come(6), row(3), row(4))
        self.assertEqual(answered[4:], [[2, 6, 3, 2], [-1], [5, 2] + [1] * 5, [2, 6, 3, 2], [3], [2, 6, 3, 2],
                                        [8, 6, 4, 3] + [1] * 6])


class WhoWaits(unittest.TestCase):
    def test_the_new_object(self):
        answered = told(row(0), row(1), come(3), row(1), come(0), row(2), come(1), row(3), come(0), row(4))
        self.assertEqual(answered, [[0, 0], [-1], [0], [2, 1, 1, 1], [1], [1, 2, 2], [2], [1, 3, 1], [3], [0, 4]])

    def test_a_cabin_takes_the_first_of_the_row(self):
        calls = [begins(4, 2, 1), come(1), come(3), come(1), come(0), come(0)]
        answered = told(*calls, *[row(minutes) for minutes in range(6)])
        self.assertEqual(answered[6:], [[0, 0], [0, 1], [3, 1, 1, 1, 1], [4, 1, 2, 2, 2, 1], [4, 1, 3, 3, 3, 2],
                                        [2, 3, 4, 3]])

    def test_who_comes_in_the_minute_of_a_cabin_stands_behind_the_row(self):
        answered = told(begins(2, 3, 1), come(0), come(2), come(2), row(3))
        self.assertEqual(answered[-1], [1, 3, 1])

    def test_fewer_people_than_seats(self):
        answered = told(begins(2, 8, 1), come(3), row(1), come(2), row(2), come(5), row(3))
        self.assertEqual(answered[2::2], [[0, 3], [2, 3, 1, 1], [0, 10]])

    def test_free_seats_are_not_kept_for_later(self):
        self.assertEqual(last(begins(3, 8, 1), come(1), come(9), row(2)), [9, 1] + [1] * 9)

    def test_just_as_many_as_seats(self):
        self.assertEqual(last(begins(3, 8, 1), come(8), row(1)), [0, 8])
        self.assertEqual(last(begins(3, 8, 1), come(9), row(1)), [1, 8, 1])

    def test_600_people(self):
        answered = last(begins(30, 1, 1), *[come(20)] * 30, row(30))
        self.assertEqual(answered[:2], [599, 1])
        self.assertEqual(answered[2:], [30] * 19 + [wait for wait in range(29, 0, -1) for _ in range(20)])


class WhenCabinsGoBy(unittest.TestCase):
    def test_a_cabin_in_every_minute(self):
        self.assertEqual(gone_behind_each_minute(6, 2, 6, 8), [2, 4, 6, 8, 10, 12, 14, 16])

    def test_one_cabin_in_each_round(self):
        self.assertEqual(gone_behind_each_minute(3, 2, 1, 8), [2, 2, 2, 4, 4, 4, 6, 6])

    def test_evenly_divided(self):
        self.assertEqual(gone_behind_each_minute(6, 1, 3, 9), [1, 1, 2, 2, 3, 3, 4, 4, 5])

    def test_not_evenly_divided(self):
        self.assertEqual(gone_behind_each_minute(7, 1, 3, 14), [1, 1, 2, 2, 3, 3, 3, 4, 4, 5, 5, 6, 6, 6])
        self.assertEqual(gone_behind_each_minute(5, 1, 3, 10), [1, 2, 2, 3, 3, 4, 5, 5, 6, 6])
        self.assertEqual(gone_behind_each_minute(5, 1, 4, 10), [1, 2, 3, 4, 4, 5, 6, 7, 8, 8])

    def test_20_cabins_in_a_round_of_30(self):
        gone = gone_behind_each_minute(30, 1, 20, 30)
        self.assertEqual(gone, [1, 2, 2, 3, 4, 4, 5, 6, 6, 7, 8, 8, 9, 10, 10, 11, 12, 12, 13, 14, 14, 15, 16, 16,
                                17, 18, 18, 19, 20, 20])

    def test_the_step_by_step_reading_itself(self):
        passing = [minute for minute in range(14) if cabin_goes_by(7, 3, minute)]
        self.assertEqual(passing, [0, 2, 4, 7, 9, 11])
        self.assertEqual(rows_step_by_step(4, 2, 1, [1, 3, 1, 0, 0])[5], [2, 3, 4, 3])


class EveryDay(unittest.TestCase):
    def test_every_day_against_the_step_by_step_reading(self):
        chance = random.Random(20)
        for round_minutes in range(1, 31):
            for cabins in range(1, min(20, round_minutes) + 1):
                for seats in range(1, 9):
                    most = chance.choice([1, 2, 5, 10, 20])
                    people = [chance.randint(0, most) for _ in range(30)]
                    calls = [begins(round_minutes, seats, cabins)] + [come(number) for number in people]
                    rows = told(*calls, *[row(minutes) for minutes in range(2, 31)])[31:]
                    with self.subTest(round=round_minutes, seats=seats, cabins=cabins, people=people):
                        check_each(self, rows, rows_step_by_step(round_minutes, seats, cabins, people)[2:])


if __name__ == "__main__":
    unittest.main()
