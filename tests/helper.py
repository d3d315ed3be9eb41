"""What the tests share: calls written by name, answers taken apart, and a slow second reading of the document."""

import functools

from cabinwait.station import answers

MOST = 4294967295


def begins(round_minutes, seats, cabins):
    return [0, round_minutes, seats, cabins]


def come(people):
    return [1, people]


def row(minutes):
    return [2, minutes]


def times():
    return [3]


def ends():
    return [4]


def fewest(minutes):
    return [5, minutes]


def joined(calls):
    return [number for call in calls for number in call]


def told(*calls):
    """The answers, one list a call, their counts taken off."""
    numbers = answers(joined(calls))
    taken = []
    place = 0
    while place < len(numbers):
        end = place + 1 + numbers[place]
        taken.append(numbers[place + 1:end])
        if len(taken[-1]) != numbers[place] or numbers[place] < 1:
            raise AssertionError("a count does not fit the numbers behind it")
        place = end
    if len(taken) != len(calls):
        raise AssertionError("not one answer for each call")
    return taken


def last(*calls):
    return told(*calls)[-1]


def check_each(case, answered, right):
    """assertEqual of two long lists takes minutes to tell how they differ; this tells the first answer that does."""
    case.assertEqual(len(answered), len(right))
    for place, answer in enumerate(answered):
        if answer != right[place]:
            case.fail(f"answer {place} is {answer}, and should be {right[place]}")


@functools.lru_cache(maxsize=None)
def passing_minutes(round_minutes, cabins):
    """The minutes of the longest day, 30 that are told and 200 more and some, in which a cabin goes by."""
    passing = set()
    for cabin in range(cabins):
        minute = cabin * round_minutes // cabins
        while minute < 300:
            passing.add(minute)
            minute += round_minutes
    return passing


def cabin_goes_by(round_minutes, cabins, minute):
    return minute in passing_minutes(round_minutes, cabins)


def rows_step_by_step(round_minutes, seats, cabins, people):
    """What row answers behind 0, 1, 2 .. minutes: each who waits is one counter, raised minute by minute."""
    waits = []
    gone = 0
    rows = [[0, 0]]
    for minute, number in enumerate(people):
        for _ in range(number):
            waits.append(0)
        if cabin_goes_by(round_minutes, cabins, minute):
            for _ in range(seats):
                if waits:
                    waits.pop(0)
                    gone += 1
        waits = [wait + 1 for wait in waits]
        rows.append([len(waits), gone] + waits)
    return rows


def ends_step_by_step(round_minutes, seats, cabins, people):
    """What ends answers: the minutes are gone through till the day is over, or 200 more are."""
    waits = []
    went = []
    minute = 0
    while minute < len(people) or (waits and minute < len(people) + 200):
        if minute < len(people):
            for _ in range(people[minute]):
                waits.append(0)
        if cabin_goes_by(round_minutes, cabins, minute):
            for _ in range(seats):
                if waits:
                    went.append(waits.pop(0))
        waits = [wait + 1 for wait in waits]
        minute += 1
    if waits:
        return [-6]
    longest = 0
    together = 0
    for wait in went:
        together += wait
        if wait > longest:
            longest = wait
    return [longest, together, len(went)]


@functools.lru_cache(maxsize=None)
def longest_waits(round_minutes, seats, people):
    """By 1, 2 .. cabins: how long somebody waits at the most, or -6, if the day doesn't end."""
    return [ends_step_by_step(round_minutes, seats, cabins, people)[0]
            for cabins in range(1, 21) if cabins <= round_minutes]


def fewest_step_by_step(round_minutes, seats, people, minutes):
    if minutes > 200:
        return [-1]
    right = [place + 1 for place, longest in enumerate(longest_waits(round_minutes, seats, tuple(people)))
             if longest != -6 and longest <= minutes]
    return right[:1] or [-6]


def told_step_by_step(*calls):
    """What told answers, by the words of the document: what is kept is the day's three numbers and its minutes."""
    day = (1, 1, 1)
    people = []
    answered = []
    for call in calls:
        if call[0] == 0:
            minutes, seats, cabins = call[1:]
            right = minutes in range(1, 31) and seats in range(1, 9) and cabins in range(1, 21) and cabins <= minutes
            if right:
                day = (minutes, seats, cabins)
                people = []
            answer = [0 if right else -1]
        elif call[0] == 1:
            if call[1] > 20:
                answer = [-1]
            elif len(people) == 30:
                answer = [-5]
            else:
                people = people + [call[1]]
                answer = [len(people) - 1]
        elif call[0] == 2:
            answer = [-1] if call[1] > len(people) else rows_step_by_step(*day, people)[call[1]]
        elif call[0] == 3:
            answer = [day[2]] + [cabin * day[0] // day[2] for cabin in range(day[2])]
        elif call[0] == 4:
            answer = ends_step_by_step(*day, people)
        else:
            answer = fewest_step_by_step(day[0], day[1], people, call[1])
        answered.append(answer)
    return answered
