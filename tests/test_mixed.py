import random
import unittest

from cabinwait.station import answers
from helper import MOST, begins, check_each, come, ends, fewest, joined, row, times, told, told_step_by_step

FAR = [21, 31, 201, 256, 65536, 2147483648, MOST]


def any_begins(chance):
    minutes = chance.randint(1, 30)
    day = [minutes, chance.randint(1, 8), chance.randint(1, min(20, minutes))]
    if chance.random() < 0.2:
        day[chance.randrange(3)] = chance.choice([0, 9] + FAR)
    return begins(*day)


def any_come(chance):
    return come(chance.choice(FAR) if chance.random() < 0.05 else chance.randint(0, chance.choice([0, 3, 8, 20])))


def any_row(chance):
    return row(chance.choice(FAR) if chance.random() < 0.1 else chance.randint(0, chance.choice([3, 10, 30])))


def any_fewest(chance):
    return fewest(chance.choice(FAR) if chance.random() < 0.1 else chance.randint(0, chance.choice([5, 30, 200])))


def any_calls(chance, shares):
    """60 calls, of each sort about as often as its share."""
    written = []
    for sort in chance.choices(range(6), shares, k=60):
        if sort == 0:
            written.append(any_begins(chance))
        elif sort == 1:
            written.append(any_come(chance))
        elif sort == 2:
            written.append(any_row(chance))
        elif sort == 3:
            written.append(times())
        elif sort == 4:
            written.append(ends())
        else:
            written.append(any_fewest(chance))
    return written


class AllCalls(unittest.TestCase):
    def check(self, calls):
        handed = joined(calls)
        kept = list(handed)
        with self.subTest(calls=calls):
            check_each(self, told(*calls), told_step_by_step(*calls))
            self.assertTrue(answers(handed) == answers(handed), "a second time gives another answer")
            self.assertTrue(handed == kept, "the list that was handed in was changed")

    def test_all_sorts(self):
        chance = random.Random(23)
        for _ in range(150):
            self.check(any_calls(chance, [1, 6, 2, 1, 1, 1]))

    def test_begins_often(self):
        chance = random.Random(24)
        for _ in range(100):
            self.check(any_calls(chance, [4, 6, 2, 2, 2, 2]))

    def test_mostly_fewest(self):
        chance = random.Random(25)
        for _ in range(40):
            self.check([any_begins(chance)] + any_calls(chance, [0, 3, 1, 1, 1, 10])[:59])

    def test_fewer_calls(self):
        chance = random.Random(26)
        for _ in range(300):
            self.check(any_calls(chance, [1, 2, 1, 1, 1, 1])[:chance.randint(1, 12)])

    def test_60_calls_of_fewest(self):
        self.check([fewest(wait) for wait in range(60)])

    def test_many_of_fewest_behind_600_people(self):
        for seats in (1, 3, 8):
            self.check([begins(30, seats, 20)] + [come(20)] * 30 + [fewest(wait) for wait in range(26, 200, 6)])

    def test_60_calls_of_ends_and_of_times(self):
        self.check([ends()] * 60)
        self.check([times()] * 60)
        self.check([begins(30, 8, 20)] + [times()] * 59)


if __name__ == "__main__":
    unittest.main()
