"""A day at the station: who comes, who goes, and who waits for how long."""

MOST_ROUND_MINUTES = 30
MOST_SEATS = 8
MOST_CABINS = 20
MOST_PEOPLE = 20
MOST_TOLD_MINUTES = 30
MOST_MINUTES_MORE = 200
MOST_WAIT_LET = 200

BEGINS = 0
COME = 1
ROW = 2
TIMES = 3
ENDS = 4

# How many whole numbers stand behind the number of each call.
NUMBERS_OF_CALL = (3, 1, 1, 0, 0, 1)


def most_cabins(round_minutes):
    return min(MOST_CABINS, round_minutes)


def is_day(round_minutes, seats, cabins):
    if not 1 <= round_minutes <= MOST_ROUND_MINUTES:
        return False
    if not 1 <= seats <= MOST_SEATS:
        return False
    return 1 <= cabins <= most_cabins(round_minutes)


def first_minutes(round_minutes, cabins):
    return [cabin * round_minutes // cabins for cabin in range(cabins)]


# Each who comes is told by the minute of their coming: the wait follows from it, and is not kept.
def coming_minutes(people):
    came = []
    for minute in range(len(people)):
        came.extend([minute] * people[minute])
    return came


class Day:
    def __init__(self):
        self.round_minutes = 1
        self.seats = 1
        self.cabins = 1
        self.people = []

    def begins(self, round_minutes, seats, cabins):
        if not is_day(round_minutes, seats, cabins):
            return [-1]
        self.round_minutes = round_minutes
        self.seats = seats
        self.cabins = cabins
        self.people = []
        return [0]

    def come(self, people):
        # The document tells -1 ahead of -5, so it is the answer when both hold.
        if people > MOST_PEOPLE:
            return [-1]
        if len(self.people) >= MOST_TOLD_MINUTES:
            return [-5]
        self.people.append(people)
        return [len(self.people) - 1]

    def row(self, minutes):
        if minutes > len(self.people):
            return [-1]
        came = coming_minutes(self.people[:minutes])
        gone = len(self.waits_of_gone(self.cabins, minutes))
        # Whoever came first goes first, so the others are those who wait.
        waiting = came[gone:]
        return [len(waiting), gone] + [minutes - coming for coming in waiting]

    def times(self):
        return [self.cabins] + first_minutes(self.round_minutes, self.cabins)

    def ends(self):
        waits = self.waits_till_the_end(self.cabins)
        if not self.have_all_gone(waits):
            return [-6]
        return [max(waits, default=0), sum(waits), len(waits)]

    def fewest(self, minutes):
        # The document tells -1 ahead of -6, so it is the answer when both hold.
        if minutes > MOST_WAIT_LET:
            return [-1]
        # A cabin more may make somebody wait longer, so each number is tried, from the least on.
        for cabins in range(1, most_cabins(self.round_minutes) + 1):
            waits = self.waits_till_the_end(cabins)
            if self.have_all_gone(waits) and max(waits, default=0) <= minutes:
                return [cabins]
        return [-6]

    # If the day ends, nobody comes or waits any more: the minutes that are left change nothing.
    def waits_till_the_end(self, cabins):
        return self.waits_of_gone(cabins, len(self.people) + MOST_MINUTES_MORE)

    def have_all_gone(self, waits):
        return len(waits) == sum(self.people)

    # How long each who has gone behind so many minutes had waited, the first to go first. How many cabins there are
    # is handed in, as fewest asks for other numbers than the day's own.
    def waits_of_gone(self, cabins, minutes):
        first = first_minutes(self.round_minutes, cabins)
        came = coming_minutes(self.people)
        waits = []
        for minute in range(minutes):
            # Each cabin's first minute lies within the first round, so the place in the round is enough.
            if minute % self.round_minutes in first:
                going = came[len(waits):len(waits) + self.seats]
                # Who comes in a later minute is not in the row yet.
                waits.extend([minute - coming for coming in going if coming <= minute])
        return waits


def answer_of(day, call, numbers):
    if call == BEGINS:
        return day.begins(numbers[0], numbers[1], numbers[2])
    if call == COME:
        return day.come(numbers[0])
    if call == ROW:
        return day.row(numbers[0])
    if call == TIMES:
        return day.times()
    if call == ENDS:
        return day.ends()
    return day.fewest(numbers[0])


def answers(calls):
    day = Day()
    answered = []
    place = 0
    while place < len(calls):
        call = calls[place]
        end = place + 1 + NUMBERS_OF_CALL[call]
        answer = answer_of(day, call, calls[place + 1:end])
        answered.append(len(answer))
        answered.extend(answer)
        place = end
    return answered
