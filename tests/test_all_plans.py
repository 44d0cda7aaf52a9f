import itertools
import unittest

from helper import ask_behind, begins, best, check, fewest, plain, pot, split, tap

# The can, the tap, and each pot's x, y, water and wilting.
WRITTEN = (
    (1, (0, 0), ()),
    (3, (5, 5), ((5, 9, 2, 4),)),
    (3, (5, 5), ((5, 9, 2, 3),)),
    (2, (5, 5), ((4, 5, 1, 9), (6, 5, 1, 9))),
    (5, (10, 10), ((13, 10, 3, 100), (12, 14, 2, 100), (6, 10, 4, 100))),
    (5, (10, 10), ((13, 10, 3, 11), (12, 14, 2, 6), (6, 10, 4, 18))),
    (3, (100, 0), ((90, 0, 1, 16), (103, 0, 1, 3), (120, 0, 1, 46))),
    (2, (0, 0), ((3, 0, 1, 100), (3, 0, 1, 100), (3, 0, 1, 100), (0, 0, 2, 100))),
    (5, (10, 10), ((0, 10, 3, 100), (0, 10, 3, 100), (20, 10, 2, 100), (20, 10, 2, 100))),
    (5, (10, 10), ((0, 10, 3, 60), (0, 10, 3, 60), (20, 10, 2, 60), (20, 10, 2, 60))),
    (4, (2, 2), ((2, 2, 1, 0), (2, 2, 4, 50), (2, 3, 2, 9), (9, 2, 1, 40))),
    (1000, (1000, 1000), ((0, 0, 1, 2000), (0, 1000, 999, 3000), (1000, 0, 1, 9000), (500, 500, 1000, 1000000))),
)


def scattered(seed):
    """A yard of four pots whose numbers look like chance, and are the same each time."""
    drawn = []
    for _ in range(19):
        seed = (seed * 1103515245 + 12345) % 2147483648
        drawn.append(seed // 65536)
    pots = [(drawn[k] % 7, drawn[k + 1] % 7, 1 + drawn[k + 2] % 4, 6 + drawn[k + 3] % 40) for k in (3, 7, 11, 15)]
    return (4 + drawn[0] % 4, (drawn[1] % 7, drawn[2] % 7), tuple(pots))


YARDS = WRITTEN + tuple(scattered(seed) for seed in range(1, 31))


def calls_of(yard):
    can, spot, pots = yard
    return [begins(can), tap(*spot)] + [pot(*told) for told in pots]


def plans_of(order):
    if not order:
        return [()]
    plans = []
    for gaps in itertools.product(((), (0,)), repeat=len(order) - 1):
        plan = order[:1]
        for gap, number in zip(gaps, order[1:]):
            plan = plan + gap + (number,)
        plans.append(plan)
    return plans


def held(before, orders):
    """Way, trips and plan of each plan with the pots in one of these orders that check says can be."""
    found = []
    for order in orders:
        plans = plans_of(order)
        given = ask_behind(before, *[check(*plan) for plan in plans])
        for plan in plans:
            told, given = given[1:given[0] + 1], given[given[0] + 1:]
            if told[0] >= 0:
                found.append((told[0], told[1], plan))
    return found


def shortest(found):
    if not found:
        return [-6]
    way = min(found)[0]
    plans = sorted(plan for length, trips, plan in found if length == way)
    return [way, len(plans), *plans[0]]


def with_fewest_trips(found):
    if not found:
        return [-6]
    fewest_trips = min(trips for way, trips, plan in found)
    return [fewest_trips] + shortest([one for one in found if one[1] == fewest_trips])


def counted(told):
    return [len(told)] + told


class AllPlans(unittest.TestCase):
    def test_best_and_fewest(self):
        for yard in YARDS:
            with self.subTest(yard=yard):
                before = calls_of(yard)
                found = held(before, itertools.permutations(range(1, len(yard[2]) + 1)))
                self.assertEqual(
                    ask_behind(before, best(), fewest()),
                    counted(shortest(found)) + counted(with_fewest_trips(found)))

    def test_split_of_each_order(self):
        for yard in YARDS:
            before = calls_of(yard)
            for order in itertools.permutations(range(1, len(yard[2]) + 1)):
                with self.subTest(yard=yard, order=order):
                    self.assertEqual(ask_behind(before, split(*order)), counted(shortest(held(before, [order]))))

    def test_plain_is_as_check_says_and_no_better_than_best(self):
        for yard in YARDS:
            with self.subTest(yard=yard):
                before = calls_of(yard)
                given = ask_behind(before, plain())
                if given != [1, -6]:
                    plan = given[2:]
                    self.assertEqual(given[0], len(plan) + 1)
                    self.assertEqual(ask_behind(before, check(*plan))[:2], [2, given[1]])
                    self.assertLessEqual(ask_behind(before, best())[1], given[1])

    def test_the_yards_are_of_many_kinds(self):
        given = [(ask_behind(calls_of(yard), best()), ask_behind(calls_of(yard), plain())) for yard in YARDS]
        self.assertTrue(any(told == [1, -6] for told, plainly in given))
        self.assertTrue(any(told != [1, -6] and plainly == [1, -6] for told, plainly in given))
        self.assertTrue(any(plainly != [1, -6] and plainly[1] > told[1] for told, plainly in given))
        self.assertTrue(any(told != [1, -6] and told[2] > 1 for told, plainly in given))


if __name__ == "__main__":
    unittest.main()
