"""A yard with a tap and pots, and the calls that are asked of it."""

BEGINS = 0
TAP = 1
POT = 2
CHECK = 3
BEST = 4
SPLIT = 5
FEWEST = 6
PLAIN = 7

MOST_IN_CAN = 1000
FARTHEST = 1000
LATEST_WILTING = 1000000
MOST_POTS = 5

WRONG_NUMBER = -1
NOT_A_PLAN = -4
TOO_MANY_POTS = -5
CANNOT_BE = -6

NOTHING = 0
TOO_LITTLE = 1
TOO_LATE = 2


class UnknownCall(Exception):
    pass


class Pot:
    def __init__(self, spot, water, wilts):
        self.spot = spot
        self.water = water
        self.wilts = wilts


class Walker:
    def __init__(self, tap, can):
        self.tap = tap
        self.can = can
        self.here = tap
        self.gone = 0
        self.left = can

    def go_to(self, spot):
        self.gone = self.gone + steps(self.here, spot)
        self.here = spot

    def fill_can(self):
        self.go_to(self.tap)
        self.left = self.can

    def what_hinders(self, pot):
        # A pot that is wrong both ways is told as too little, so this is asked first.
        if pot.water > self.left:
            return TOO_LITTLE
        if self.gone + steps(self.here, pot.spot) > pot.wilts:
            return TOO_LATE
        return NOTHING

    def give_water(self, pot):
        self.go_to(pot.spot)
        self.left = self.left - pot.water


class WalkedPlan:
    def __init__(self, plan, way, trips):
        self.plan = plan
        self.way = way
        self.trips = trips


class Yard:
    def __init__(self):
        self.can = 1
        self.tap = (0, 0)
        self.pots = []

    def begins(self, holds):
        if holds == 0 or holds > MOST_IN_CAN:
            return [WRONG_NUMBER]
        self.can = holds
        self.tap = (0, 0)
        self.pots = []
        return [0]

    def move_tap(self, x, y):
        if is_outside(x, y):
            return [WRONG_NUMBER]
        self.tap = (x, y)
        return [0]

    def add_pot(self, x, y, water, wilts):
        if is_outside(x, y) or water == 0 or water > self.can or wilts > LATEST_WILTING:
            return [WRONG_NUMBER]
        if len(self.pots) == MOST_POTS:
            return [TOO_MANY_POTS]
        self.pots.append(Pot((x, y), water, wilts))
        return [len(self.pots)]

    def check(self, plan):
        if any([number > len(self.pots) for number in plan]):
            return [WRONG_NUMBER]
        if not is_plan(plan, len(self.pots)):
            return [NOT_A_PLAN]
        return self.walk(plan)

    def best(self):
        return shortest(self.plans_that_can_be(all_orders(len(self.pots))))

    def split_order(self, order):
        if any([number == 0 or number > len(self.pots) for number in order]):
            return [WRONG_NUMBER]
        if not is_each_pot_once(order, len(self.pots)):
            return [NOT_A_PLAN]
        return shortest(self.plans_that_can_be([order]))

    def fewest(self):
        walked = self.plans_that_can_be(all_orders(len(self.pots)))
        if len(walked) == 0:
            return [CANNOT_BE]
        trips = min([one.trips for one in walked])
        return [trips] + shortest([one for one in walked if one.trips == trips])

    def plain(self):
        walker = Walker(self.tap, self.can)
        plan = []
        dry = list(range(1, len(self.pots) + 1))
        while len(dry) > 0:
            within_reach = [number for number in dry if walker.what_hinders(self.pot_of(number)) == NOTHING]
            if len(within_reach) > 0:
                number = self.nearest(walker.here, within_reach)
                walker.give_water(self.pot_of(number))
                dry.remove(number)
                plan.append(number)
            elif is_can_just_filled(plan):
                return [CANNOT_BE]
            else:
                walker.fill_can()
                plan.append(0)
        walker.go_to(self.tap)
        return [walker.gone] + plan

    def pot_of(self, number):
        return self.pots[number - 1]

    def nearest(self, here, numbers):
        # The number stands behind the steps, so that of several as near the lowest is the least.
        return min([(steps(here, self.pot_of(number).spot), number) for number in numbers])[1]

    def plans_that_can_be(self, orders):
        found = []
        for order in orders:
            for plan in plans_in_order(order):
                told = self.walk(plan)
                if told[0] != CANNOT_BE:
                    found.append(WalkedPlan(plan, told[0], told[1]))
        return found

    def walk(self, plan):
        walker = Walker(self.tap, self.can)
        for place, number in enumerate(plan):
            if number == 0:
                walker.fill_can()
                continue
            pot = self.pot_of(number)
            hindrance = walker.what_hinders(pot)
            if hindrance != NOTHING:
                return [CANNOT_BE, place, hindrance]
            walker.give_water(pot)
        walker.go_to(self.tap)
        return [walker.gone, count_trips(plan)]


def is_outside(x, y):
    return x > FARTHEST or y > FARTHEST


def steps(here, there):
    return abs(here[0] - there[0]) + abs(here[1] - there[1])


def is_plan(numbers, how_many_pots):
    order = [number for number in numbers if number != 0]
    return is_each_pot_once(order, how_many_pots) and zeros_stand_between(numbers)


def is_each_pot_once(order, how_many_pots):
    return sorted(order) == list(range(1, how_many_pots + 1))


def zeros_stand_between(numbers):
    if len(numbers) == 0:
        return True
    # One begins at the tap, so a 0 at the beginning is like one behind another 0.
    before = 0
    for number in numbers:
        if number == 0 and before == 0:
            return False
        before = number
    return before != 0


def count_trips(plan):
    if len(plan) == 0:
        return 0
    return plan.count(0) + 1


def is_can_just_filled(plan):
    # A pot may stand at the tap's own spot: being there doesn't mean that the can is full.
    return len(plan) == 0 or plan[-1] == 0


def all_orders(how_many_pots):
    orders = [[]]
    for number in range(1, how_many_pots + 1):
        longer = []
        for order in orders:
            for place in range(len(order) + 1):
                longer.append(order[:place] + [number] + order[place:])
        orders = longer
    return orders


def plans_in_order(order):
    plans = [order[:1]]
    for number in order[1:]:
        longer = []
        for plan in plans:
            longer.append(plan + [number])
            longer.append(plan + [0, number])
        plans = longer
    return plans


def shortest(walked):
    if len(walked) == 0:
        return [CANNOT_BE]
    way = min([one.way for one in walked])
    plans = [one.plan for one in walked if one.way == way]
    # Of two lists Python holds for less the one that is the earlier plan.
    return [way, len(plans)] + min(plans)


def answer(yard, call, numbers):
    if call == BEGINS:
        return yard.begins(numbers[0])
    if call == TAP:
        return yard.move_tap(numbers[0], numbers[1])
    if call == POT:
        return yard.add_pot(numbers[0], numbers[1], numbers[2], numbers[3])
    if call == CHECK:
        return yard.check(numbers)
    if call == BEST:
        return yard.best()
    if call == SPLIT:
        return yard.split_order(numbers)
    if call == FEWEST:
        return yard.fewest()
    if call == PLAIN:
        return yard.plain()
    raise UnknownCall(f"call {call}")


def answers(calls):
    yard = Yard()
    given = []
    place = 0
    while place < len(calls):
        first = place + 2
        behind = first + calls[place + 1]
        told = answer(yard, calls[place], calls[first:behind])
        given.append(len(told))
        given.extend(told)
        # No call has lists: behind its numbers stands one 0 alone.
        place = behind + 1
    return given
