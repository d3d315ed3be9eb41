import unittest

from helper import MOST, begins, come, last, row, told

FAR = [22, 30, 255, 256, 276, 65536, 2147483647, 2147483648, MOST - 1, MOST]


class Come(unittest.TestCase):
    def test_the_number_of_the_minute_from_0_on(self):
        answered = told(begins(9, 3, 2), *[come(minute % 21) for minute in range(30)])
        self.assertEqual(answered[1:], [[minute] for minute in range(30)])

    def test_every_number_of_people_that_may_come(self):
        for people in range(21):
            with self.subTest(people=people):
                self.assertEqual(told(come(people), row(1))[0], [0])

    def test_nobody_comes(self):
        self.assertEqual(told(come(0), row(1), come(0), row(2)), [[0], [0, 0], [1], [0, 0]])

    def test_20_come(self):
        self.assertEqual(told(begins(2, 8, 1), come(20), row(1)), [[0], [0], [12, 8] + [1] * 12])

    def test_above_20(self):
        for people in [21] + FAR:
            with self.subTest(people=people):
                self.assertEqual(last(come(people)), [-1])

    def test_the_31st_minute(self):
        answered = told(*[come(1)] * 30, come(1), come(0), come(20))
        self.assertEqual(answered[29:], [[29], [-5], [-5], [-5]])

    def test_above_20_in_the_31st_minute(self):
        for people in [21] + FAR:
            with self.subTest(people=people):
                self.assertEqual(last(*[come(1)] * 30, come(people)), [-1])


class RefusedCome(unittest.TestCase):
    def test_above_20_leaves_all_as_it_was(self):
        for people in [21] + FAR:
            with self.subTest(people=people):
                answered = told(begins(3, 2, 1), come(5), come(people), row(1), row(2), come(1), row(2))
                self.assertEqual(answered[2:], [[-1], [3, 2, 1, 1, 1], [-1], [1], [4, 2, 2, 2, 2, 1]])

    def test_the_31st_minute_leaves_all_as_it_was(self):
        ahead = [begins(30, 2, 1)] + [come(0)] * 28 + [come(2), come(3)]
        waits = [5, 0, 2, 2, 1, 1, 1]
        for people in (0, 1, 20, 21, MOST):
            with self.subTest(people=people):
                answered = told(*ahead, row(30), come(people), row(30), row(31), row(29))
                self.assertEqual(answered[31], waits)
                self.assertEqual(answered[33:], [waits, [-1], [2, 0, 1, 1]])


if __name__ == "__main__":
    unittest.main()
