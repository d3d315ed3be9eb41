import random
import unittest

from helper import begins, come, ends, ends_step_by_step, fewest, last, row, times, told


def padded(people, minutes):
    """The calls that tell these minutes, and then minutes in which nobody comes, up to so many."""
    return [come(number) for number in people] + [come(0)] * (minutes - len(people))


class NobodyCame(unittest.TestCase):
    def test_no_minutes_told(self):
        self.assertEqual(last(ends()), [0, 0, 0])
        self.assertEqual(last(begins(30, 1, 1), ends()), [0, 0, 0])
        self.assertEqual(last(come(7), begins(30, 1, 1), ends()), [0, 0, 0])

    def test_minutes_told_with_0_people(self):
        for minutes in (1, 2, 29, 30):
            with self.subTest(minutes=minutes):
                self.assertEqual(last(begins(30, 1, 1), *padded([], minutes), ends()), [0, 0, 0])


class HowLong(unittest.TestCase):
    def test_everybody_goes_in_the_minute_in_which_they_came(self):
        self.assertEqual(last(come(1), ends()), [0, 0, 1])
        self.assertEqual(last(begins(1, 8, 1), come(8), come(3), come(0), come(8), ends()), [0, 0, 19])
        self.assertEqual(last(begins(3, 5, 1), come(5), come(0), come(0), come(4), ends()), [0, 0, 9])

    def test_everybody_has_gone_when_the_told_minutes_are_over(self):
        self.assertEqual(last(come(3), come(0), come(0), ends()), [2, 3, 3])

    def test_a_row_still_there_when_the_told_minutes_are_over(self):
        # They go in the minutes 0 to 19.
        self.assertEqual(last(come(20), ends()), [19, 190, 20])
        # One goes in minute 0, two in minute 4, two in minute 8: waits 0, 3, 3, 7, 6.
        self.assertEqual(last(begins(4, 2, 1), come(1), come(3), come(1), ends()), [7, 19, 5])

    def test_who_comes_in_the_last_told_minute(self):
        self.assertEqual(last(begins(30, 1, 1), come(0), come(1), ends()), [29, 29, 1])
        self.assertEqual(last(begins(30, 1, 1), *padded([], 29), come(1), ends()), [1, 1, 1])

    def test_the_longest_wait_is_not_always_the_last_ones(self):
        # The first waits from minute 1 to 10, the second comes in minute 9 and goes in the same cabin.
        self.assertEqual(last(begins(10, 2, 1), *padded([0, 1], 9), come(1), ends()), [9, 10, 2])

    def test_the_rounds_go_on_when_the_told_minutes_are_over(self):
        # Cabins go by in the minutes 0, 2, 4, 7, 9, 11, 14.
        self.assertEqual(last(begins(7, 1, 3), come(7), ends()), [14, 47, 7])

    def test_600_people(self):
        # 8 seats in each minute: the last, who came in minute 29, go in minute 74.
        answered = last(begins(20, 8, 20), *[come(20)] * 30, ends())
        self.assertEqual(answered[::2], [45, 600])
        self.assertEqual(answered, ends_step_by_step(20, 8, 20, [20] * 30))


class WhenItEnds(unittest.TestCase):
    def test_over_just_behind_200_minutes_more(self):
        # Eleven go in the minutes 0, 20 .. 200; 1 minute is told, so minute 200 is the 200th more.
        self.assertEqual(last(begins(20, 1, 1), come(11), ends()), [200, 1100, 11])

    def test_over_only_a_round_later(self):
        self.assertEqual(last(begins(20, 1, 1), come(12), ends()), [-6])

    def test_over_only_one_minute_later(self):
        # The twelfth goes in minute 220: the 200th more behind 21 told minutes, the 201st behind 20.
        ahead = [begins(20, 1, 1)]
        self.assertEqual(last(*ahead, *padded([12], 20), ends()), [-6])
        self.assertEqual(last(*ahead, *padded([12], 21), ends()), [220, 1320, 12])
        self.assertEqual(told(*ahead, *padded([12], 20), ends(), come(0), ends())[-3:],
                         [[-6], [20], [220, 1320, 12]])

    def test_one_minute_later_by_people_who_come_in_two_minutes(self):
        # One goes in each 10th minute, the 22nd, who came in minute 1, in minute 210.
        ahead = [begins(10, 1, 1)]
        self.assertEqual(last(*ahead, *padded([20, 2], 10), ends()), [-6])
        self.assertEqual(last(*ahead, *padded([20, 2], 11), ends()), [209, 2308, 22])
        self.assertEqual(last(*ahead, *padded([20, 3], 11), ends()), [-6])

    def test_the_last_of_30_told_minutes(self):
        # 230 go in the minutes 0 to 229, one in each.
        people = [20] * 11 + [10]
        self.assertEqual(last(*padded(people, 30), ends())[2:], [230])
        self.assertEqual(last(*padded([20] * 11 + [11], 30), ends()), [-6])
        self.assertEqual(last(*padded(people, 29), ends()), [-6])
        self.assertEqual(last(*padded(people, 30), ends()), ends_step_by_step(1, 1, 1, people + [0] * 18))

    def test_longer_than_200_minutes_is_no_refusal(self):
        # The twentieth goes in minute 228.
        self.assertEqual(last(begins(12, 1, 1), *padded([20], 30), ends()), [228, 2280, 20])

    def test_far_too_many(self):
        self.assertEqual(last(begins(30, 1, 1), *[come(20)] * 30, ends()), [-6])
        self.assertEqual(last(*[come(20)] * 30, ends()), [-6])


class EndsChangesNothing(unittest.TestCase):
    def test_the_calls_behind_it(self):
        calls = [begins(7, 2, 3), come(9), row(1), come(0), row(2), times(), come(4), fewest(6), row(3), times()]
        between = [call for written in calls for call in (written, ends(), ends())]
        self.assertEqual(told(*between)[::3], told(*calls))
        self.assertEqual(told(*between)[1::3], told(*between)[2::3])

    def test_the_next_minute_is_the_next_told_one(self):
        answered = told(come(3), ends(), come(1), ends(), row(2))
        self.assertEqual(answered, [[0], [2, 3, 3], [1], [2, 5, 4], [2, 2, 2, 1]])

    def test_a_refusal_changes_nothing(self):
        answered = told(begins(20, 1, 1), come(12), ends(), ends(), row(1), row(2), times(), come(0), row(2))
        self.assertEqual(answered[2:], [[-6], [-6], [11, 1] + [1] * 11, [-1], [1, 0], [1], [11, 1] + [2] * 11])

    def test_a_refused_begins_and_come_leave_it(self):
        ahead = [begins(4, 2, 1), come(1), come(3), come(1)]
        answered = told(*ahead, ends(), begins(4, 2, 5), ends(), come(21), ends())
        self.assertEqual(answered[4:], [[7, 19, 5], [-1], [7, 19, 5], [-1], [7, 19, 5]])

    def test_a_31st_minute_leaves_it(self):
        ahead = [begins(4, 2, 1)] + [come(1)] * 30
        answered = told(*ahead, ends(), come(1), ends())
        self.assertEqual(answered[31:], [answered[31], [-5], answered[31]])
        self.assertEqual(answered[31], ends_step_by_step(4, 2, 1, [1] * 30))


class EveryDay(unittest.TestCase):
    def test_the_step_by_step_reading_itself(self):
        self.assertEqual(ends_step_by_step(4, 2, 1, [1, 3, 1]), [7, 19, 5])
        self.assertEqual(ends_step_by_step(20, 1, 1, [11]), [200, 1100, 11])
        self.assertEqual(ends_step_by_step(20, 1, 1, [12]), [-6])

    def test_every_day_against_the_step_by_step_reading(self):
        chance = random.Random(21)
        ended = {True: 0, False: 0}
        for round_minutes in range(1, 31):
            for cabins in range(1, min(20, round_minutes) + 1):
                for seats in range(1, 9):
                    most = chance.choice([1, 2, 5, 10, 20])
                    people = [chance.randint(0, most) for _ in range(chance.randint(0, 30))]
                    right = ends_step_by_step(round_minutes, seats, cabins, people)
                    ended[right != [-6]] += 1
                    with self.subTest(round=round_minutes, seats=seats, cabins=cabins, people=people):
                        self.assertEqual(last(begins(round_minutes, seats, cabins), *padded(people, 0), ends()), right)
        self.assertGreater(min(ended.values()), 200)


if __name__ == "__main__":
    unittest.main()
