"""What the tests share: calls written by name, answers taken apart, and a slow second reading of the document."""

from cabinwait.station import answers

MOST = 4294967295


def begins(round_minutes, seats, cabins):
    return [0, round_minutes, seats, cabins]


def come(people):
    return [1, people]


def row(minutes):
    return [2, minutes]


def joined(calls):
    return [number for call in calls for number in call]


def told(*calls):
    """The answers, one list a call, their counts taken off."""
    numbers = answers(joined(calls))
    taken = []
    place = 0
    while place < len(numbers):
        end = place + 1 + numbers[place]
        taken.append(numbers[place + 1:end])
        if len(taken[-1]) != numbers[place] or numbers[place] < 1:
            raise AssertionError("a count does not fit the numbers behind it")
        place = end
    if len(taken) != len(calls):
        raise AssertionError("not one answer for each call")
    return taken


def last(*calls):
    return told(*calls)[-1]


def cabin_goes_by(round_minutes, cabins, minute):
    for cabin in range(cabins):
        passing = cabin * round_minutes // cabins
        while passing < minute:
            passing += round_minutes
        if passing == minute:
            return True
    return False


def rows_step_by_step(round_minutes, seats, cabins, people):
    """What row answers behind 0, 1, 2 .. minutes: each who waits is one counter, raised minute by minute."""
    waits = []
    gone = 0
    rows = [[0, 0]]
    for minute, number in enumerate(people):
        for _ in range(number):
            waits.append(0)
        if cabin_goes_by(round_minutes, cabins, minute):
            for _ in range(seats):
                if waits:
                    waits.pop(0)
                    gone += 1
        waits = [wait + 1 for wait in waits]
        rows.append([len(waits), gone] + waits)
    return rows
