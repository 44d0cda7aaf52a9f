import itertools
import unittest

from helper import ask, ask_behind, begins, check, pot, tap

# Steps: tap to 1, 2, 3: 3, 6, 4; 1 to 2: 5; 1 to 3: 7; 2 to 3: 10.
YARD = [begins(5), tap(10, 10), pot(13, 10, 3, 100), pot(12, 14, 2, 100), pot(6, 10, 4, 100)]


def timed(first, second, third):
    """The yard above, with pots that wilt at these steps."""
    return [begins(5), tap(10, 10), pot(13, 10, 3, first), pot(12, 14, 2, second), pot(6, 10, 4, third)]


class WayAndTrips(unittest.TestCase):
    def test_whole_list(self):
        self.assertEqual(ask(*YARD, check(1, 2, 0, 3)), [1, 0, 1, 0, 1, 1, 1, 2, 1, 3, 2, 22, 2])

    def test_one_zero_or_two(self):
        self.assertEqual(ask_behind(YARD, check(2, 1, 0, 3)), [2, 22, 2])
        self.assertEqual(ask_behind(YARD, check(3, 0, 1, 2)), [2, 22, 2])
        self.assertEqual(ask_behind(YARD, check(1, 0, 2, 0, 3)), [2, 26, 3])

    def test_without_zeros(self):
        before = [begins(9)] + YARD[1:]
        self.assertEqual(ask_behind(before, check(1, 2, 3)), [2, 22, 1])
        self.assertEqual(ask_behind(before, check(2, 3, 1)), [2, 26, 1])
        self.assertEqual(ask_behind(before, check(3, 1, 2)), [2, 22, 1])

    def test_five_pots_and_four_zeros(self):
        before = [tap(500, 500)] + [pot(500, 500 + k, 1, 1000) for k in (1, 2, 3, 4, 5)]
        self.assertEqual(ask_behind(before, check(5, 0, 4, 0, 3, 0, 2, 0, 1)), [2, 30, 5])

    def test_one_pot(self):
        self.assertEqual(ask(pot(1000, 1000, 1, 2000), check(1)), [1, 1, 2, 4000, 1])

    def test_empty_without_pots(self):
        self.assertEqual(ask(check()), [2, 0, 0])
        self.assertEqual(ask(begins(4), tap(7, 7), check()), [1, 0, 1, 0, 2, 0, 0])


class WrongNumber(unittest.TestCase):
    def test_above_how_many_pots_there_are(self):
        for plan in ((4,), (1, 2, 0, 4), (4, 1, 2, 3), (1, 4294967295, 2, 3)):
            with self.subTest(plan=plan):
                self.assertEqual(ask_behind(YARD, check(*plan)), [1, -1])

    def test_any_pot_without_pots(self):
        self.assertEqual(ask(check(1)), [1, -1])

    def test_is_told_ahead_of_the_form(self):
        for plan in ((0, 4), (4, 0), (1, 0, 0, 4), (1, 1, 4), (0,) * 11 + (4,), (4,) * 12):
            with self.subTest(plan=plan):
                self.assertEqual(ask_behind(YARD, check(*plan)), [1, -1])

    def test_is_told_ahead_of_a_step_that_cannot_be_done(self):
        self.assertEqual(ask_behind(YARD, check(1, 3, 2, 4)), [1, -1])


class NotAPlan(unittest.TestCase):
    def refused(self, *plan):
        with self.subTest(plan=plan):
            self.assertEqual(ask_behind(YARD, check(*plan)), [1, -4])

    def test_empty_with_pots(self):
        self.refused()

    def test_a_pot_missing(self):
        self.refused(1, 2)
        self.refused(2, 0, 3)
        self.refused(3)

    def test_a_pot_twice(self):
        self.refused(1, 2, 0, 3, 1)
        self.refused(1, 1, 2, 0, 3)
        self.refused(1, 2, 2)

    def test_zero_at_the_beginning(self):
        self.refused(0, 1, 2, 0, 3)

    def test_zero_at_the_end(self):
        self.refused(1, 2, 0, 3, 0)

    def test_zero_beside_zero(self):
        self.refused(1, 2, 0, 0, 3)
        self.refused(1, 0, 0, 0, 2, 0, 3)

    def test_zeros_alone(self):
        self.refused(0)
        self.refused(0, 0)
        self.refused(*[0] * 12)

    def test_zeros_alone_without_pots(self):
        self.assertEqual(ask(check(0), check(0, 0)), [1, -4, 1, -4])

    def test_is_told_ahead_of_a_step_that_cannot_be_done(self):
        self.refused(1, 3, 2, 0)
        self.refused(1, 3)

    def test_all_short_lists_for_two_pots(self):
        before = [begins(2), pot(1, 0, 1, 99), pot(0, 1, 1, 99)]
        plans = {(1, 2): [2, 4, 1], (2, 1): [2, 4, 1], (1, 0, 2): [2, 4, 2], (2, 0, 1): [2, 4, 2]}
        for length in range(6):
            for plan in itertools.product((0, 1, 2), repeat=length):
                with self.subTest(plan=plan):
                    self.assertEqual(ask_behind(before, check(*plan)), plans.get(plan, [1, -4]))


class CannotBe(unittest.TestCase):
    def test_too_little(self):
        self.assertEqual(ask_behind(YARD, check(1, 3, 2)), [3, -6, 1, 1])
        self.assertEqual(ask_behind(YARD, check(1, 2, 3)), [3, -6, 2, 1])

    def test_just_enough_and_one_too_little(self):
        before = [pot(1, 0, 4, 99), pot(2, 0, 3, 99)]
        self.assertEqual(ask_behind([begins(7)] + before, check(1, 2)), [2, 4, 1])
        self.assertEqual(ask_behind([begins(6)] + before, check(1, 2)), [3, -6, 1, 1])

    def test_the_can_is_filled_at_a_zero_no_more_than_it_holds(self):
        self.assertEqual(ask_behind(YARD, check(2, 0, 1, 3)), [3, -6, 3, 1])
        self.assertEqual(ask_behind(YARD, check(2, 0, 3, 0, 1)), [2, 26, 3])

    def test_just_in_time(self):
        # Come to: 2 at 6, 1 at 11, the tap at 14, 3 at 18.
        self.assertEqual(ask_behind(timed(11, 6, 18), check(2, 1, 0, 3)), [2, 22, 2])

    def test_too_late_by_one(self):
        self.assertEqual(ask_behind(timed(11, 5, 18), check(2, 1, 0, 3)), [3, -6, 0, 2])
        self.assertEqual(ask_behind(timed(10, 6, 18), check(2, 1, 0, 3)), [3, -6, 1, 2])
        self.assertEqual(ask_behind(timed(11, 6, 17), check(2, 1, 0, 3)), [3, -6, 3, 2])

    def test_steps_are_counted_from_the_beginning_over_zeros(self):
        self.assertEqual(ask_behind(timed(100, 100, 4), check(1, 0, 3, 0, 2)), [3, -6, 2, 2])
        self.assertEqual(ask_behind(timed(100, 100, 10), check(1, 0, 3, 0, 2)), [2, 26, 3])

    def test_wilting_at_once(self):
        self.assertEqual(ask(pot(0, 0, 1, 0), check(1)), [1, 1, 2, 0, 1])
        self.assertEqual(ask(pot(0, 1, 1, 0), check(1)), [1, 1, 3, -6, 0, 2])

    def test_too_little_and_too_late_at_once(self):
        self.assertEqual(ask_behind(timed(100, 100, 9), check(1, 3, 2)), [3, -6, 1, 1])
        self.assertEqual(ask_behind(timed(100, 100, 0), check(2, 0, 1, 3)), [3, -6, 3, 1])

    def test_the_first_step_is_told(self):
        # Too late at 1, and too little at 3 behind it.
        self.assertEqual(ask_behind(timed(2, 100, 100), check(1, 3, 2)), [3, -6, 0, 2])
        # Too little at 3, and too late at 2 behind it.
        self.assertEqual(ask_behind(timed(100, 1, 100), check(1, 3, 2)), [3, -6, 1, 1])
        # Too late at both.
        self.assertEqual(ask_behind(timed(100, 1, 1), check(1, 0, 3, 0, 2)), [3, -6, 2, 2])

    def test_the_way_back_may_be_later_than_wilting(self):
        self.assertEqual(ask(pot(6, 0, 1, 6), check(1)), [1, 1, 2, 12, 1])


class AsItWas(unittest.TestCase):
    def test_check_changes_nothing(self):
        good = check(1, 2, 0, 3)
        for other in (good, check(4), check(1, 2), check(1, 3, 2)):
            with self.subTest(other=other):
                self.assertEqual(
                    ask_behind(YARD, other, good, pot(10, 11, 6, 9), pot(10, 11, 5, 9))[-7:],
                    [2, 22, 2, 1, -1, 1, 4])

    def test_one_check_behind_another(self):
        self.assertEqual(
            ask_behind(YARD, check(1, 2, 0, 3), check(1, 3, 2), check(1, 2, 0, 3)),
            [2, 22, 2, 3, -6, 1, 1, 2, 22, 2])


if __name__ == "__main__":
    unittest.main()
