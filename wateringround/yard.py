"""A yard with a tap and pots, and the calls that are asked of it."""

BEGINS = 0
TAP = 1
POT = 2
CHECK = 3

MOST_IN_CAN = 1000
FARTHEST = 1000
LATEST_WILTING = 1000000
MOST_POTS = 5

WRONG_NUMBER = -1
NOT_A_PLAN = -4
TOO_MANY_POTS = -5
CANNOT_BE = -6

TOO_LITTLE = 1
TOO_LATE = 2


class UnknownCall(Exception):
    pass


class Pot:
    def __init__(self, spot, water, wilts):
        self.spot = spot
        self.water = water
        self.wilts = wilts


class Yard:
    def __init__(self):
        self.can = 1
        self.tap = (0, 0)
        self.pots = []

    def begins(self, holds):
        if holds == 0 or holds > MOST_IN_CAN:
            return [WRONG_NUMBER]
        self.can = holds
        self.tap = (0, 0)
        self.pots = []
        return [0]

    def move_tap(self, x, y):
        if is_outside(x, y):
            return [WRONG_NUMBER]
        self.tap = (x, y)
        return [0]

    def add_pot(self, x, y, water, wilts):
        if is_outside(x, y) or water == 0 or water > self.can or wilts > LATEST_WILTING:
            return [WRONG_NUMBER]
        if len(self.pots) == MOST_POTS:
            return [TOO_MANY_POTS]
        self.pots.append(Pot((x, y), water, wilts))
        return [len(self.pots)]

    def check(self, plan):
        if any([number > len(self.pots) for number in plan]):
            return [WRONG_NUMBER]
        if not is_plan(plan, len(self.pots)):
            return [NOT_A_PLAN]
        return self.walk(plan)

    def walk(self, plan):
        here = self.tap
        gone = 0
        left = self.can
        for place, number in enumerate(plan):
            if number == 0:
                gone = gone + steps(here, self.tap)
                here = self.tap
                left = self.can
                continue
            pot = self.pots[number - 1]
            gone = gone + steps(here, pot.spot)
            # A step that is wrong both ways is told as too little, so this is asked first.
            if pot.water > left:
                return [CANNOT_BE, place, TOO_LITTLE]
            if gone > pot.wilts:
                return [CANNOT_BE, place, TOO_LATE]
            here = pot.spot
            left = left - pot.water
        return [gone + steps(here, self.tap), count_trips(plan)]


def is_outside(x, y):
    return x > FARTHEST or y > FARTHEST


def steps(here, there):
    return abs(here[0] - there[0]) + abs(here[1] - there[1])


def is_plan(numbers, how_many_pots):
    told = sorted([number for number in numbers if number != 0])
    return told == list(range(1, how_many_pots + 1)) and zeros_stand_between(numbers)


def zeros_stand_between(numbers):
    if len(numbers) == 0:
        return True
    # One begins at the tap, so a 0 at the beginning is like one behind another 0.
    before = 0
    for number in numbers:
        if number == 0 and before == 0:
            return False
        before = number
    return before != 0


def count_trips(plan):
    if len(plan) == 0:
        return 0
    return plan.count(0) + 1


def answer(yard, call, numbers):
    if call == BEGINS:
        return yard.begins(numbers[0])
    if call == TAP:
        return yard.move_tap(numbers[0], numbers[1])
    if call == POT:
        return yard.add_pot(numbers[0], numbers[1], numbers[2], numbers[3])
    if call == CHECK:
        return yard.check(numbers)
    raise UnknownCall(f"call {call}")


def answers(calls):
    yard = Yard()
    given = []
    place = 0
    while place < len(calls):
        first = place + 2
        behind = first + calls[place + 1]
        told = answer(yard, calls[place], calls[first:behind])
        given.append(len(told))
        given.extend(told)
        # No call has lists: behind its numbers stands one 0 alone.
        place = behind + 1
    return given
