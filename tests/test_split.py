import unittest

from helper import ask, ask_behind, begins, best, check, pot, split, tap

# Steps: tap to 1, 2, 3: 3, 6, 4; 1 to 2: 5; 1 to 3: 7; 2 to 3: 10. Of two pots only 1 and 2 go with one can.
YARD = [begins(5), tap(10, 10), pot(13, 10, 3, 100), pot(12, 14, 2, 100), pot(6, 10, 4, 100)]


class Split(unittest.TestCase):
    def test_whole_list(self):
        self.assertEqual(
            ask(*YARD, split(2, 1, 3)),
            [1, 0, 1, 0, 1, 1, 1, 2, 1, 3, 6, 22, 1, 2, 1, 0, 3])

    def test_the_order_is_kept(self):
        self.assertEqual(ask_behind(YARD, split(1, 2, 3)), [6, 22, 1, 1, 2, 0, 3])
        self.assertEqual(ask_behind(YARD, split(3, 2, 1)), [6, 22, 1, 3, 0, 2, 1])
        self.assertEqual(ask_behind(YARD, split(1, 3, 2)), [7, 26, 1, 1, 0, 3, 0, 2])
        self.assertEqual(ask_behind(YARD, split(2, 3, 1)), [7, 26, 1, 2, 0, 3, 0, 1])

    def test_a_longer_order_is_not_made_shorter(self):
        before = [begins(3), pot(1, 0, 1, 100), pot(9, 0, 1, 100), pot(2, 0, 1, 100)]
        self.assertEqual(ask_behind(before, best()), [5, 18, 4, 1, 2, 3])
        self.assertEqual(ask_behind(before, split(2, 1, 3)), [5, 20, 1, 2, 1, 3])

    def test_one_pot(self):
        self.assertEqual(ask(pot(3, 4, 1, 7), split(1)), [1, 1, 3, 14, 1, 1])

    def test_without_pots(self):
        self.assertEqual(ask(split()), [2, 0, 1])
        self.assertEqual(ask_behind(YARD, begins(5), split()), [1, 0, 2, 0, 1])

    def test_five_pots(self):
        before = [begins(2)] + [pot(k, 0, 1, 1000) for k in (1, 2, 3, 4, 5)]
        self.assertEqual(ask_behind(before, split(5, 4, 3, 2, 1)), [9, 18, 1, 5, 4, 0, 3, 2, 0, 1])
        # 2, 8 and 10 steps; the other ways to split it have more.
        self.assertEqual(ask_behind(before, split(1, 2, 4, 3, 5)), [9, 20, 1, 1, 0, 2, 4, 0, 3, 5])


class AsGood(unittest.TestCase):
    def test_a_zero_is_earlier_than_a_pot(self):
        before = [begins(2), tap(10, 10), pot(9, 10, 1, 100), pot(11, 10, 1, 100)]
        self.assertEqual(ask_behind(before, split(1, 2)), [5, 4, 2, 1, 0, 2])
        self.assertEqual(ask_behind(before, split(2, 1)), [5, 4, 2, 2, 0, 1])

    def test_pots_at_the_tap(self):
        before = [begins(2), tap(4, 4), pot(4, 4, 1, 100), pot(6, 4, 1, 100)]
        self.assertEqual(ask_behind(before, split(2, 1)), [5, 4, 2, 2, 0, 1])

    def test_several_pots_at_one_spot(self):
        before = [begins(2)] + [pot(3, 0, 1, 100)] * 3
        self.assertEqual(ask_behind(before, split(3, 1, 2)), [6, 12, 2, 3, 0, 1, 2])

    def test_every_plan_of_five_pots_is_as_good(self):
        before = [begins(5)] + [pot(0, 0, 1, 0)] * 5
        self.assertEqual(ask_behind(before, split(5, 3, 1, 4, 2)), [11, 0, 16, 5, 0, 3, 0, 1, 0, 4, 0, 2])

    def test_shorter_with_one_zero_more(self):
        # With one 0 each trip goes over both sides: 80 steps.
        before = [
            begins(5), tap(10, 10), pot(0, 10, 3, 100), pot(0, 10, 3, 100), pot(20, 10, 2, 100), pot(20, 10, 2, 100)]
        self.assertEqual(ask_behind(before, check(1, 3, 0, 4, 2)), [2, 80, 2])
        self.assertEqual(ask_behind(before, split(1, 3, 4, 2)), [8, 60, 1, 1, 0, 3, 4, 0, 2])

    def test_as_long_with_one_zero_more(self):
        # On the way from 1 to 2 one comes by the tap; between 2 and 3 a 0 would be a detour.
        before = [begins(3), tap(10, 10), pot(9, 10, 1, 100), pot(11, 10, 1, 100), pot(12, 10, 1, 100)]
        self.assertEqual(ask_behind(before, split(1, 2, 3)), [6, 6, 2, 1, 0, 2, 3])


class CanBe(unittest.TestCase):
    def test_only_thirsty_plans_are_shorter(self):
        before = [pot(5, 0, 2, 100), pot(6, 0, 2, 100)]
        self.assertEqual(ask_behind([begins(4)] + before, split(2, 1)), [4, 12, 1, 2, 1])
        self.assertEqual(ask_behind([begins(3)] + before, split(2, 1)), [5, 22, 1, 2, 0, 1])

    def test_late_plans_are_not_counted(self):
        # Between 1 and 2 a 0 costs no step, but between 2 and 3 it makes the way longer, and 3 late.
        before = [tap(10, 10), pot(9, 10, 2, 100), pot(11, 10, 2, 3), pot(12, 10, 2, 4)]
        self.assertEqual(ask_behind([begins(6)] + before, split(1, 2, 3)), [6, 6, 2, 1, 0, 2, 3])
        self.assertEqual(ask_behind([begins(4)] + before, split(1, 2, 3)), [6, 6, 1, 1, 0, 2, 3])
        self.assertEqual(ask_behind([begins(3)] + before, split(1, 2, 3)), [1, -6])

    def test_only_late_plans_are_shorter(self):
        # A 0 is asked for: behind 1 it makes 30 steps, and 2 is come to at 14; behind 2 it makes 36, and 2 at 8.
        def timed(second):
            return [begins(4), pot(4, 0, 2, 100), pot(3, 3, 2, second), pot(3, 8, 2, 100)]

        self.assertEqual(ask_behind(timed(14), split(1, 2, 3)), [6, 30, 1, 1, 0, 2, 3])
        self.assertEqual(ask_behind(timed(13), split(1, 2, 3)), [6, 36, 1, 1, 2, 0, 3])
        self.assertEqual(ask_behind(timed(8), split(1, 2, 3)), [6, 36, 1, 1, 2, 0, 3])
        self.assertEqual(ask_behind(timed(7), split(1, 2, 3)), [1, -6])

    def test_another_order_has_a_plan(self):
        before = [begins(2), pot(3, 0, 1, 3), pot(0, 4, 1, 100)]
        self.assertEqual(ask_behind(before, split(2, 1)), [1, -6])
        self.assertEqual(ask_behind(before, split(1, 2)), [5, 14, 2, 1, 0, 2])

    def test_just_in_time_and_one_step_late(self):
        self.assertEqual(ask(pot(0, 7, 1, 7), pot(0, 1, 1, 15), split(1, 2)), [1, 1, 1, 2, 5, 16, 1, 1, 0, 2])
        self.assertEqual(ask(pot(0, 7, 1, 7), pot(0, 1, 1, 14), split(1, 2)), [1, 1, 1, 2, 1, -6])
        self.assertEqual(ask(pot(0, 7, 1, 6), pot(0, 1, 1, 15), split(1, 2)), [1, 1, 1, 2, 1, -6])

    def test_a_pot_too_far_off(self):
        self.assertEqual(ask(pot(10, 0, 1, 9), split(1)), [1, 1, 1, -6])


class WrongNumber(unittest.TestCase):
    def refused(self, *order):
        with self.subTest(order=order):
            self.assertEqual(ask_behind(YARD, split(*order)), [1, -1])

    def test_zero(self):
        self.refused(1, 2, 0, 3)
        self.refused(0, 1, 2, 3)
        self.refused(1, 2, 3, 0)

    def test_above_how_many_pots_there_are(self):
        self.refused(1, 2, 4)
        self.refused(4, 1, 2, 3)
        self.refused(1, 2, 4294967295)

    def test_is_told_ahead_of_an_order_that_has_not_each_pot_once(self):
        self.refused(0)
        self.refused(4)
        self.refused(1, 1, 0)
        self.refused(2, 2, 4)
        self.refused(0, 0, 0, 0, 0, 0, 0, 0)
        self.refused(1, 2, 3, 1, 2, 3, 1, 4)

    def test_without_pots(self):
        self.assertEqual(ask(split(0), split(1)), [1, -1, 1, -1])

    def test_is_told_ahead_of_no_plan_can_be(self):
        self.assertEqual(ask(pot(10, 0, 1, 9), split(0), split(2), split(1, 2)), [1, 1, 1, -1, 1, -1, 1, -1])


class NotEachPotOnce(unittest.TestCase):
    def refused(self, *order):
        with self.subTest(order=order):
            self.assertEqual(ask_behind(YARD, split(*order)), [1, -4])

    def test_empty_with_pots(self):
        self.refused()

    def test_a_pot_missing(self):
        self.refused(1)
        self.refused(1, 2)
        self.refused(3, 2)

    def test_a_pot_twice(self):
        self.refused(1, 2, 3, 1)
        self.refused(1, 1, 3)
        self.refused(2, 2, 2)

    def test_more_numbers_than_pots(self):
        self.refused(1, 2, 3, 3, 2, 1)
        self.refused(1, 2, 3, 1, 2, 3, 1, 2)

    def test_is_told_ahead_of_no_plan_can_be(self):
        self.assertEqual(ask(pot(10, 0, 1, 9), split(), split(1, 1)), [1, 1, 1, -4, 1, -4])


if __name__ == "__main__":
    unittest.main()
