import unittest

from helper import ask, ask_behind, begins, best, fewest, pot, tap

# Steps: tap to 1, 2, 3: 3, 6, 4; 1 to 2: 5; 1 to 3: 7; 2 to 3: 10. Of two pots only 1 and 2 go with one can.
YARD = [begins(5), tap(10, 10), pot(13, 10, 3, 100), pot(12, 14, 2, 100), pot(6, 10, 4, 100)]


def two_sides(wilts):
    """1 and 2 left of the tap, 3 and 4 right; a can does for one left and one right, or for both right."""
    return [
        begins(5), tap(10, 10), pot(0, 10, 3, wilts), pot(0, 10, 3, wilts), pot(20, 10, 2, wilts),
        pot(20, 10, 2, wilts)]


class Fewest(unittest.TestCase):
    def test_whole_list(self):
        self.assertEqual(
            ask(*YARD, fewest()),
            [1, 0, 1, 0, 1, 1, 1, 2, 1, 3, 7, 2, 22, 4, 1, 2, 0, 3])

    def test_one_pot(self):
        self.assertEqual(ask(pot(3, 4, 1, 7), fewest()), [1, 1, 4, 1, 14, 1, 1])

    def test_without_pots(self):
        self.assertEqual(ask(fewest()), [3, 0, 0, 1])
        self.assertEqual(ask_behind(YARD, begins(5), fewest()), [1, 0, 3, 0, 0, 1])

    def test_of_plans_with_so_few_only_the_shortest_count(self):
        before = [begins(3), pot(1, 0, 1, 100), pot(9, 0, 1, 100), pot(2, 0, 1, 100)]
        self.assertEqual(ask_behind(before, fewest()), [6, 1, 18, 4, 1, 2, 3])

    def test_plans_as_short_with_more_trips_do_not_count(self):
        before = [begins(2), tap(10, 10), pot(9, 10, 1, 100), pot(11, 10, 1, 100)]
        self.assertEqual(ask_behind(before, best(), fewest()), [5, 4, 4, 1, 0, 2, 5, 1, 4, 2, 1, 2])

    def test_pots_at_the_tap(self):
        before = [begins(2), tap(4, 4), pot(4, 4, 1, 100), pot(6, 4, 1, 100)]
        self.assertEqual(ask_behind(before, fewest()), [5, 1, 4, 2, 1, 2])

    def test_several_pots_at_one_spot(self):
        before = [begins(2)] + [pot(3, 0, 1, 100)] * 3
        self.assertEqual(ask_behind(before, fewest()), [7, 2, 12, 12, 1, 0, 2, 3])


class LongerThanTheBest(unittest.TestCase):
    def test_longer_than_the_best(self):
        self.assertEqual(
            ask_behind(two_sides(100), best(), fewest()),
            [8, 60, 12, 1, 0, 2, 0, 3, 4, 8, 2, 80, 16, 1, 3, 0, 2, 4])

    def test_fewest_as_the_cans_would_do_with_just_in_time(self):
        self.assertEqual(ask_behind(two_sides(70), fewest()), [8, 2, 80, 16, 1, 3, 0, 2, 4])

    def test_one_trip_more_is_in_time(self):
        for wilts in (69, 50):
            with self.subTest(wilts=wilts):
                self.assertEqual(ask_behind(two_sides(wilts), fewest()), [9, 3, 60, 12, 1, 0, 2, 0, 3, 4])

    def test_no_plan_is_in_time(self):
        self.assertEqual(ask_behind(two_sides(49), fewest()), [1, -6])


class CanBe(unittest.TestCase):
    def test_only_late_plans_are_shorter(self):
        # In time are only 2, 1, 3, though 60 steps would do for 1, 2, 3.
        before = [begins(3), tap(100, 0), pot(90, 0, 1, 16), pot(103, 0, 1, 3), pot(120, 0, 1, 46)]
        self.assertEqual(ask_behind(before, fewest()), [6, 1, 66, 1, 2, 1, 3])

    def test_only_thirsty_plans_are_shorter(self):
        before = [pot(5, 0, 2, 100), pot(6, 0, 2, 100)]
        self.assertEqual(ask_behind([begins(4)] + before, fewest()), [5, 1, 12, 2, 1, 2])
        self.assertEqual(ask_behind([begins(3)] + before, fewest()), [6, 2, 22, 2, 1, 0, 2])

    def test_a_pot_too_far_off(self):
        self.assertEqual(ask(pot(10, 0, 1, 10), fewest()), [1, 1, 4, 1, 20, 1, 1])
        self.assertEqual(ask(pot(10, 0, 1, 9), fewest()), [1, 1, 1, -6])
        self.assertEqual(ask_behind(YARD + [pot(10, 20, 1, 9)], fewest()), [1, -6])


class FivePots(unittest.TestCase):
    def row(self, holds):
        return [begins(holds)] + [pot(k, 0, 1, 1000) for k in (1, 2, 3, 4, 5)]

    def test_as_many_trips_as_the_cans_ask_for(self):
        self.assertEqual(ask_behind(self.row(5), fewest()), [8, 1, 10, 16, 1, 2, 3, 4, 5])
        self.assertEqual(ask_behind(self.row(2), fewest()), [10, 3, 18, 24, 1, 0, 2, 3, 0, 4, 5])
        self.assertEqual(ask_behind(self.row(1), fewest()), [12, 5, 30, 120, 1, 0, 2, 0, 3, 0, 4, 0, 5])

    def test_every_order_is_as_good(self):
        before = [begins(5)] + [pot(0, 0, 1, 0)] * 5
        self.assertEqual(ask_behind(before, fewest()), [8, 1, 0, 120, 1, 2, 3, 4, 5])

    def test_no_plan_can_be(self):
        before = [pot(0, 5, 1, 44)] * 5
        self.assertEqual(ask_behind(before, fewest()), [1, -6])


if __name__ == "__main__":
    unittest.main()
