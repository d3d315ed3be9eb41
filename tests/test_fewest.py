import random
import unittest

from helper import MOST, begins, check_each, come, ends, fewest, fewest_step_by_step, last, longest_waits, row
from helper import times, told


def least(round_minutes, seats, people, *waits):
    """What fewest answers for each of these waits."""
    calls = [begins(round_minutes, seats, 1)] + [come(number) for number in people]
    return told(*calls, *[fewest(wait) for wait in waits])[len(calls):]


class HowManyMinutes(unittest.TestCase):
    def test_0(self):
        self.assertEqual(least(6, 2, [2, 0, 0, 2], 0), [[2]])
        self.assertEqual(least(6, 2, [3], 0), [[-6]])

    def test_200_and_201(self):
        # By one cabin eleven go in the minutes 0, 20 .. 200.
        self.assertEqual(least(20, 1, [11], 199, 200, 201), [[2], [1], [-1]])

    def test_far_more(self):
        for minutes in (202, 255, 256, 257, 456, 65536, 65736, 2147483648, 4294967096, MOST - 1, MOST):
            with self.subTest(minutes=minutes):
                self.assertEqual(least(20, 1, [11], minutes), [[-1]])

    def test_above_200_is_refused_of_each_day(self):
        self.assertEqual(told(fewest(201), fewest(MOST), fewest(200)), [[-1], [-1], [1]])
        self.assertEqual(least(5, 8, [0, 0], 201), [[-1]])

    def test_of_two_refusals_the_one_told_first(self):
        self.assertEqual(least(30, 1, [20] * 30, 200, 201, MOST), [[-6], [-1], [-1]])


class NobodyCame(unittest.TestCase):
    def test_no_minutes_told(self):
        self.assertEqual(told(fewest(0), fewest(200)), [[1], [1]])
        self.assertEqual(least(30, 1, [], 0, 10, 200), [[1], [1], [1]])

    def test_minutes_told_with_0_people(self):
        self.assertEqual(least(30, 1, [0], 0, 10, 200), [[1], [1], [1]])
        self.assertEqual(least(30, 1, [0] * 30, 0, 10, 200), [[1], [1], [1]])

    def test_whatever_number_is_told(self):
        self.assertEqual(last(begins(30, 1, 20), come(0), fewest(0)), [1])


class HowManyCabins(unittest.TestCase):
    def test_one_is_enough(self):
        self.assertEqual(least(1, 1, [1, 1, 1], 0), [[1]])
        self.assertEqual(least(30, 8, [8], 0), [[1]])
        self.assertEqual(least(30, 8, [9], 29, 30), [[2], [1]])

    def test_some_number_between(self):
        # By 1, 2, 3 .. cabins the second goes in minute 12, 6, 4, 3, 2, 2, 1.
        self.assertEqual(least(12, 1, [2], 0, 1, 2, 3, 4, 5, 6, 11, 12),
                         [[-6], [7], [5], [4], [3], [3], [2], [2], [1]])

    def test_as_many_as_minutes_in_a_round(self):
        # Five who come at once, one seat: in the minutes 0 to 4, if a cabin goes by in each.
        self.assertEqual(least(5, 1, [5], 3, 4, 5), [[-6], [5], [4]])
        self.assertEqual(least(3, 1, [5], 3, 4), [[-6], [3]])
        self.assertEqual(least(20, 1, [20], 18, 19, 20), [[-6], [20], [19]])
        self.assertEqual(least(1, 1, [5], 3, 4), [[-6], [1]])

    def test_20_and_no_more(self):
        # By 20 cabins on a round of 30 the last goes in minute 28, by 21 it would be minute 27.
        self.assertEqual(least(30, 1, [20], 27, 28, 29, 30, 31), [[-6], [20], [20], [19], [18]])

    def test_a_person_who_came_to_the_end_of_a_round(self):
        # By 20 cabins on a round of 21 none goes by in minute 20.
        self.assertEqual(least(21, 1, [0] * 20 + [1], 0, 1), [[-6], [1]])

    def test_the_day_must_end(self):
        # By one cabin the twelfth goes only in minute 220, by two in minute 110.
        self.assertEqual(least(20, 1, [12], 109, 110, 199, 200), [[3], [2], [2], [2]])

    def test_the_day_ends_but_somebody_waits_longer_than_200(self):
        # By one cabin the twentieth goes in minute 228, and the day ends behind 30 told minutes and 199 more.
        people = [20] + [0] * 29
        self.assertEqual(least(12, 1, people, 113, 114, 200), [[3], [2], [2]])

    def test_who_waits_longest_need_not_be_the_last(self):
        # By one cabin the first waits from minute 1 to 10, the second from minute 9.
        people = [0, 1] + [0] * 7 + [1]
        self.assertEqual(least(10, 2, people, 9, 8), [[1], [2]])


class NoSuchNumber(unittest.TestCase):
    def test_the_day_ends_by_none(self):
        self.assertEqual(least(30, 1, [20] * 30, 0, 10, 200), [[-6]] * 3)
        self.assertEqual(least(1, 1, [20] * 30, 200), [[-6]])

    def test_somebody_waits_longer_by_each(self):
        self.assertEqual(least(4, 2, [9], 0, 3, 4), [[-6], [-6], [4]])
        # None of at most 20 cabins goes by in the last minute of a round of 30.
        self.assertEqual(least(30, 8, [0] * 29 + [1], 0, 1), [[-6], [1]])

    def test_just_too_many_for_200(self):
        # One goes in each minute. The 211th comes in minute 10 and goes in minute 210, the 212th in minute 211.
        self.assertEqual(least(1, 1, [20] * 10 + [11], 199, 200), [[-6], [1]])
        self.assertEqual(least(1, 1, [20] * 10 + [12], 200), [[-6]])


class ACabinMore(unittest.TestCase):
    def test_one_who_has_just_missed_a_cabin(self):
        # One comes in minute 10. By 1, 2 .. 7 cabins they wait 20, 5, 0, 5, 2, 0 and 2 minutes.
        people = [0] * 10 + [1]
        self.assertEqual(longest_waits(30, 1, tuple(people))[:7], [20, 5, 0, 5, 2, 0, 2])
        self.assertEqual(least(30, 1, people, 0, 1, 2, 4, 5, 19, 20), [[3], [3], [3], [3], [2], [2], [1]])

    def test_two_cabins_are_enough_and_three_are_not(self):
        # Two go by in the minutes 0 and 2 of a round, three in 0, 1 and 3.
        self.assertEqual(longest_waits(5, 1, (0, 0, 1)), [3, 0, 1, 0, 0])
        self.assertEqual(least(5, 1, [0, 0, 1], 0, 1, 2, 3), [[2], [2], [2], [1]])

    def test_three_cabins_are_enough_and_the_greatest_number_is_not(self):
        people = [0] * 20 + [1]
        self.assertEqual(longest_waits(30, 1, tuple(people))[2], 0)
        self.assertEqual(longest_waits(30, 1, tuple(people))[19], 1)
        self.assertEqual(least(30, 1, people, 0), [[3]])

    def test_each_day_of_one_person(self):
        worse = 0
        for round_minutes in range(1, 31):
            for minute in range(round_minutes):
                people = [0] * minute + [1]
                longest = longest_waits(round_minutes, 1, tuple(people))
                worse += any(more > fewer for fewer, more in zip(longest, longest[1:]))
                # Where an answer changes is just at one of the longest waits.
                waits = sorted(set(longest))
                right = [fewest_step_by_step(round_minutes, 1, people, wait) for wait in waits]
                with self.subTest(round=round_minutes, minute=minute):
                    self.assertEqual(least(round_minutes, 1, people, *waits), right)
        self.assertGreater(worse, 100)


class WhatIsTold(unittest.TestCase):
    def test_how_many_cabins_are_told_plays_no_part(self):
        for cabins in range(1, 13):
            with self.subTest(cabins=cabins):
                answered = told(begins(12, 1, cabins), come(2), *[fewest(wait) for wait in (0, 1, 2, 3, 4, 6, 12)])
                self.assertEqual(answered[2:], [[-6], [7], [5], [4], [3], [2], [1]])

    def test_how_many_cabins_are_told_stays(self):
        for cabins in range(1, 13):
            calls = [begins(12, 1, cabins), come(2), come(1), times(), row(2), ends(), come(4), row(3), times(), ends()]
            between = [call for written in calls for call in (written, fewest(6), fewest(0), fewest(201))]
            with self.subTest(cabins=cabins):
                self.assertEqual(told(*between)[::4], told(*calls))

    def test_a_day_that_does_not_end_by_what_is_told(self):
        answered = told(begins(20, 1, 1), come(12), ends(), fewest(110), ends(), times(), row(1))
        self.assertEqual(answered[2:], [[-6], [2], [-6], [1, 0], [11, 1] + [1] * 11])

    def test_by_so_many_nobody_waits_longer_and_by_fewer_somebody_does(self):
        people = [come(number) for number in (7, 0, 12, 3, 20, 1)]
        by_cabins = [last(begins(24, 3, cabins), *people, ends())[0] for cabins in range(1, 21)]
        for wait in (15, 20, 30, 40, 60, 200):
            with self.subTest(wait=wait):
                cabins = last(begins(24, 3, 1), *people, fewest(wait))[0]
                self.assertIn(by_cabins[cabins - 1], range(wait + 1))
                for longest in by_cabins[:cabins - 1]:
                    self.assertNotIn(longest, range(wait + 1))

    def test_seats_and_round_are_those_told(self):
        self.assertEqual(least(12, 2, [4], 2, 3), [[5], [4]])
        self.assertEqual(least(12, 4, [4], 0), [[1]])
        self.assertEqual(least(6, 1, [2], 1, 2, 3), [[4], [3], [2]])

    def test_a_refused_begins_leaves_it(self):
        answered = told(begins(12, 1, 3), come(2), fewest(2), begins(6, 1, 7), fewest(2), begins(6, 1, 6), fewest(2))
        self.assertEqual(answered[2:], [[5], [-1], [5], [0], [1]])

    def test_minutes_told_behind_it_count(self):
        answered = told(begins(12, 1, 1), come(1), fewest(0), come(1), fewest(0), fewest(1))
        self.assertEqual(answered[1:], [[0], [1], [1], [7], [5]])


class EveryDay(unittest.TestCase):
    def test_every_round_and_seats_against_the_step_by_step_reading(self):
        chance = random.Random(22)
        found = {}
        for round_minutes in range(1, 31):
            for seats in range(1, 9):
                for most in (1, 3, 8, 20):
                    people = [chance.randint(0, most) for _ in range(chance.randint(0, 30))]
                    longest = [wait for wait in longest_waits(round_minutes, seats, tuple(people)) if wait >= 0]
                    edges = sorted({wait + by for wait in longest for by in (-1, 0) if wait + by >= 0})
                    waits = chance.sample(edges, min(20, len(edges))) + [0, 10, 199, 200, 201]
                    right = [fewest_step_by_step(round_minutes, seats, people, wait) for wait in waits]
                    for answer in right:
                        found[answer[0]] = True
                    with self.subTest(round=round_minutes, seats=seats, people=people):
                        check_each(self, least(round_minutes, seats, people, *waits), right)
        self.assertEqual(sorted(found), [-6, -1] + list(range(1, 21)))


if __name__ == "__main__":
    unittest.main()
