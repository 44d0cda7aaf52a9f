import unittest

from helper import ask, ask_behind, begins, best, check, pot, tap

# Steps: tap to 1, 2, 3: 3, 6, 4; 1 to 2: 5; 1 to 3: 7; 2 to 3: 10. Of two pots only 1 and 2 go with one can.
YARD = [begins(5), tap(10, 10), pot(13, 10, 3, 100), pot(12, 14, 2, 100), pot(6, 10, 4, 100)]


class Best(unittest.TestCase):
    def test_whole_list(self):
        self.assertEqual(
            ask(*YARD, best()),
            [1, 0, 1, 0, 1, 1, 1, 2, 1, 3, 6, 22, 4, 1, 2, 0, 3])

    def test_one_pot(self):
        self.assertEqual(ask(pot(3, 4, 1, 7), best()), [1, 1, 3, 14, 1, 1])

    def test_without_pots(self):
        self.assertEqual(ask(best()), [2, 0, 1])
        self.assertEqual(ask(begins(4), tap(7, 7), best()), [1, 0, 1, 0, 2, 0, 1])

    def test_without_pots_any_more(self):
        self.assertEqual(ask_behind(YARD, begins(5), best()), [1, 0, 2, 0, 1])

    def test_one_plan_alone_is_best(self):
        # Only 2, 1, 3 are in time, and a 0 would be a detour.
        before = [begins(3), pot(4, 4, 1, 10), pot(4, 3, 1, 7), pot(5, 5, 1, 10)]
        self.assertEqual(ask_behind(before, best()), [5, 20, 1, 2, 1, 3])

    def test_the_tap_is_where_it_stands_last(self):
        before = [begins(2), pot(8, 0, 1, 100), pot(2, 0, 1, 100)]
        self.assertEqual(ask_behind(before, best(), tap(12, 0), best()), [4, 16, 2, 1, 2, 1, 0, 4, 20, 2, 1, 2])
        self.assertEqual(ask_behind(before, tap(5, 0), best()), [1, 0, 5, 12, 4, 1, 0, 2])


class AsGood(unittest.TestCase):
    def test_a_zero_is_earlier_than_a_pot(self):
        # The tap lies between the pots, so that a 0 costs no step.
        before = [begins(2), tap(10, 10), pot(9, 10, 1, 100), pot(11, 10, 1, 100)]
        self.assertEqual(ask_behind(before, best()), [5, 4, 4, 1, 0, 2])

    def test_the_lower_number_is_earlier_where_a_zero_is_a_detour(self):
        before = [begins(2), pot(0, 6, 1, 100), pot(0, 5, 1, 100)]
        self.assertEqual(ask_behind(before, best()), [4, 12, 2, 1, 2])

    def test_the_first_difference_tells(self):
        # As short: 1 and 3 together and 2 alone. 1, 3, 0, 2 is earlier than 2, 0, 1, 3.
        before = [begins(3), tap(50, 50), pot(50, 60, 1, 100), pot(40, 50, 2, 100), pot(50, 61, 2, 100)]
        self.assertEqual(ask_behind(before, best()), [6, 42, 4, 1, 3, 0, 2])

    def test_pots_at_the_tap(self):
        before = [begins(2), tap(4, 4), pot(4, 4, 1, 100), pot(6, 4, 1, 100)]
        self.assertEqual(ask_behind(before, best()), [5, 4, 4, 1, 0, 2])

    def test_all_pots_at_the_tap(self):
        self.assertEqual(ask(pot(0, 0, 1, 0), pot(0, 0, 1, 0), best()), [1, 1, 1, 2, 5, 0, 2, 1, 0, 2])

    def test_several_pots_at_one_spot(self):
        before = [begins(2)] + [pot(3, 0, 1, 100)] * 3
        self.assertEqual(ask_behind(before, best()), [6, 12, 12, 1, 0, 2, 3])

    def test_a_zero_that_would_be_a_detour_is_not_as_good(self):
        before = [begins(3)] + [pot(3, 0, 1, 100)] * 3
        self.assertEqual(ask_behind(before, best()), [5, 6, 6, 1, 2, 3])


class ShorterWithOneTripMore(unittest.TestCase):
    def test_shorter_with_one_zero_more(self):
        # Two trips go over both sides, 80 steps; three keep to one side each, 60.
        before = [
            begins(5), tap(10, 10), pot(0, 10, 3, 100), pot(0, 10, 3, 100), pot(20, 10, 2, 100), pot(20, 10, 2, 100)]
        self.assertEqual(ask_behind(before, check(1, 3, 0, 2, 4)), [2, 80, 2])
        self.assertEqual(ask_behind(before, best()), [8, 60, 12, 1, 0, 2, 0, 3, 4])


class CanBe(unittest.TestCase):
    def timed(self, first, second, third):
        """Pots 10 left, 3 right and 20 right of the tap: 60 steps, and 6 more if one goes left between the others."""
        return [
            begins(3), tap(100, 0), pot(90, 0, 1, first), pot(103, 0, 1, second), pot(120, 0, 1, third)]

    def test_only_late_plans_are_shorter(self):
        self.assertEqual(ask_behind(self.timed(1000, 1000, 1000), best())[1], 60)
        self.assertEqual(ask_behind(self.timed(16, 3, 46), best()), [7, 66, 4, 2, 0, 1, 0, 3])

    def test_one_step_late(self):
        for wilting in ((15, 3, 46), (16, 2, 46), (16, 3, 45)):
            with self.subTest(wilting=wilting):
                self.assertEqual(ask_behind(self.timed(*wilting), best()), [1, -6])

    def test_only_thirsty_plans_are_shorter(self):
        before = [pot(5, 0, 2, 100), pot(6, 0, 2, 100)]
        self.assertEqual(ask_behind([begins(4)] + before, best()), [4, 12, 2, 1, 2])
        self.assertEqual(ask_behind([begins(3)] + before, best()), [5, 22, 2, 1, 0, 2])

    def test_a_pot_too_far_off(self):
        self.assertEqual(ask(pot(10, 0, 1, 10), best()), [1, 1, 3, 20, 1, 1])
        self.assertEqual(ask(pot(10, 0, 1, 9), best()), [1, 1, 1, -6])
        self.assertEqual(ask_behind(YARD + [pot(10, 20, 1, 9)], best()), [1, -6])

    def test_two_pots_of_which_one_is_late(self):
        before = [begins(2), tap(10, 0), pot(0, 0, 1, 10), pot(20, 0, 1, 29)]
        self.assertEqual(ask_behind(before, best()), [1, -6])


class FivePots(unittest.TestCase):
    def row(self, holds):
        return [begins(holds)] + [pot(k, 0, 1, 1000) for k in (1, 2, 3, 4, 5)]

    def test_one_trip(self):
        # Each pot but the last is watered on the way out or on the way back.
        self.assertEqual(ask_behind(self.row(5), best()), [7, 10, 16, 1, 2, 3, 4, 5])

    def test_two_pots_a_trip(self):
        self.assertEqual(ask_behind(self.row(2), best()), [9, 18, 24, 1, 0, 2, 3, 0, 4, 5])

    def test_one_pot_a_trip(self):
        self.assertEqual(ask_behind(self.row(1), best()), [11, 30, 120, 1, 0, 2, 0, 3, 0, 4, 0, 5])

    def test_every_plan_is_as_good(self):
        before = [begins(5)] + [pot(0, 0, 1, 0)] * 5
        self.assertEqual(ask_behind(before, best()), [11, 0, 1920, 1, 0, 2, 0, 3, 0, 4, 0, 5])

    def test_the_longest_way(self):
        before = [pot(1000, 1000, 1, 1000000)] * 5
        self.assertEqual(ask_behind(before, best()), [11, 20000, 120, 1, 0, 2, 0, 3, 0, 4, 0, 5])

    def test_no_plan_can_be(self):
        before = [pot(0, 5, 1, 44)] * 5
        self.assertEqual(ask_behind(before, best()), [1, -6])


if __name__ == "__main__":
    unittest.main()
