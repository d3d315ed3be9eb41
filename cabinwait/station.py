"""A day at the station: who comes, who goes, and who waits for how long."""

MOST_ROUND_MINUTES = 30
MOST_SEATS = 8
MOST_CABINS = 20
MOST_PEOPLE = 20
MOST_TOLD_MINUTES = 30

BEGINS = 0
COME = 1
ROW = 2

# How many whole numbers stand behind the number of each call.
NUMBERS_OF_CALL = (3, 1, 1)


def is_day(round_minutes, seats, cabins):
    if not 1 <= round_minutes <= MOST_ROUND_MINUTES:
        return False
    if not 1 <= seats <= MOST_SEATS:
        return False
    return 1 <= cabins <= min(MOST_CABINS, round_minutes)


def first_minutes(round_minutes, cabins):
    return [cabin * round_minutes // cabins for cabin in range(cabins)]


class Day:
    def __init__(self):
        self.round_minutes = 1
        self.seats = 1
        self.cabins = 1
        self.people = []

    def begins(self, round_minutes, seats, cabins):
        if not is_day(round_minutes, seats, cabins):
            return [-1]
        self.round_minutes = round_minutes
        self.seats = seats
        self.cabins = cabins
        self.people = []
        return [0]

    def come(self, people):
        # The document tells -1 ahead of -5, so it is the answer when both hold.
        if people > MOST_PEOPLE:
            return [-1]
        if len(self.people) >= MOST_TOLD_MINUTES:
            return [-5]
        self.people.append(people)
        return [len(self.people) - 1]

    def row(self, minutes):
        if minutes > len(self.people):
            return [-1]
        waiting = self.waiting_behind(minutes)
        gone = sum(self.people[:minutes]) - len(waiting)
        return [len(waiting), gone] + [minutes - came for came in waiting]

    # Each who waits stands in the row as the minute of their coming: the wait follows from it, and is not kept.
    def waiting_behind(self, minutes):
        first = first_minutes(self.round_minutes, self.cabins)
        waiting = []
        for minute in range(minutes):
            waiting = waiting + [minute] * self.people[minute]
            # Each cabin's first minute lies within the first round, so the place in the round is enough.
            if minute % self.round_minutes in first:
                waiting = waiting[self.seats:]
        return waiting


def answer_of(day, call, numbers):
    if call == BEGINS:
        return day.begins(numbers[0], numbers[1], numbers[2])
    if call == COME:
        return day.come(numbers[0])
    return day.row(numbers[0])


def answers(calls):
    day = Day()
    answered = []
    place = 0
    while place < len(calls):
        call = calls[place]
        end = place + 1 + NUMBERS_OF_CALL[call]
        answer = answer_of(day, call, calls[place + 1:end])
        answered.append(len(answer))
        answered.extend(answer)
        place = end
    return answered
