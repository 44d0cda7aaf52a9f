import unittest

from helper import ask, ask_behind, begins, best, plain, pot, tap


class Plain(unittest.TestCase):
    def test_whole_list(self):
        # Steps: tap to 1, 2, 3: 3, 6, 4; 1 to 2: 5; 1 to 3: 7.
        calls = [begins(5), tap(10, 10), pot(13, 10, 3, 100), pot(12, 14, 2, 100), pot(6, 10, 4, 100), plain()]
        self.assertEqual(ask(*calls), [1, 0, 1, 0, 1, 1, 1, 2, 1, 3, 5, 22, 1, 2, 0, 3])

    def test_one_pot(self):
        self.assertEqual(ask(pot(3, 4, 1, 7), plain()), [1, 1, 2, 14, 1])

    def test_without_pots(self):
        self.assertEqual(ask(plain()), [1, 0])
        self.assertEqual(ask(begins(4), tap(7, 7), pot(7, 8, 1, 9), begins(4), plain())[-4:], [1, 0, 1, 0])

    def test_nearest_from_where_one_is(self):
        # From the tap 3 is nearer than 1, from 2 it is farther.
        before = [begins(3), tap(10, 10), pot(14, 10, 1, 100), pot(12, 10, 1, 100), pot(7, 10, 1, 100)]
        self.assertEqual(ask_behind(before, plain()), [4, 14, 2, 1, 3])

    def test_steps_go_along_both_sides(self):
        before = [begins(2), pot(3, 3, 1, 100), pot(0, 5, 1, 100)]
        self.assertEqual(ask_behind(before, plain()), [3, 16, 2, 1])

    def test_longer_than_the_best(self):
        before = [begins(3), tap(10, 0), pot(11, 0, 1, 100), pot(8, 0, 1, 100), pot(16, 0, 1, 100)]
        self.assertEqual(ask_behind(before, best())[1], 16)
        self.assertEqual(ask_behind(before, plain()), [4, 18, 1, 2, 3])

    def test_five_pots(self):
        row = [pot(k, 0, 1, 1000) for k in (5, 3, 1, 2, 4)]
        self.assertEqual(ask_behind([begins(5)] + row, plain()), [6, 10, 3, 4, 2, 5, 1])
        self.assertEqual(ask_behind([begins(2)] + row, plain()), [8, 22, 3, 4, 0, 2, 5, 0, 1])
        self.assertEqual(ask_behind([begins(1)] + row, plain()), [10, 30, 3, 0, 4, 0, 2, 0, 5, 0, 1])


class AsNear(unittest.TestCase):
    def test_the_lowest_number_from_the_tap(self):
        before = [begins(3), tap(10, 10), pot(10, 12, 1, 100), pot(12, 10, 1, 100), pot(11, 11, 1, 100)]
        self.assertEqual(ask_behind(before, plain()), [4, 8, 1, 3, 2])

    def test_the_lowest_number_from_a_pot(self):
        before = [begins(3), pot(3, 0, 1, 100), pot(1, 0, 1, 100), pot(1, 2, 1, 100)]
        self.assertEqual(ask_behind(before, plain()), [4, 10, 2, 1, 3])

    def test_the_lowest_number_of_those_that_can_be_watered(self):
        # Behind 1 there is too little for 2, and 3 is as near as 4.
        before = [begins(4), pot(1, 0, 2, 100), pot(3, 0, 3, 100), pot(2, 1, 2, 100), pot(1, 2, 2, 100)]
        self.assertEqual(ask_behind(before, plain()), [7, 18, 1, 3, 0, 2, 0, 4])

    def test_several_at_one_spot(self):
        before = [begins(2)] + [pot(3, 0, 1, 100)] * 3
        self.assertEqual(ask_behind(before, plain()), [5, 12, 1, 2, 0, 3])


class TooLittle(unittest.TestCase):
    def test_a_farther_pot_is_gone_to(self):
        before = [begins(5), pot(1, 0, 3, 100), pot(2, 0, 3, 100), pot(9, 0, 2, 100)]
        self.assertEqual(ask_behind(before, plain()), [5, 22, 1, 3, 0, 2])

    def test_just_enough(self):
        before = [pot(1, 0, 3, 100), pot(2, 0, 3, 100), pot(9, 0, 2, 100)]
        self.assertEqual(ask_behind([begins(8)] + before, plain()), [4, 18, 1, 2, 3])
        self.assertEqual(ask_behind([begins(6)] + before, plain()), [5, 22, 1, 2, 0, 3])

    def test_the_can_is_not_filled_as_one_comes_by_the_tap(self):
        before = [begins(2), tap(10, 0), pot(9, 0, 1, 100), pot(12, 0, 1, 100), pot(14, 0, 1, 100)]
        self.assertEqual(ask_behind(before, plain()), [5, 14, 1, 2, 0, 3])

    def test_pots_at_the_tap(self):
        # One stands at the tap's spot behind 1, but the can is filled only by going back.
        before = [tap(4, 4), pot(4, 4, 1, 0), pot(4, 4, 1, 0)]
        self.assertEqual(ask_behind(before, plain()), [4, 0, 1, 0, 2])
        self.assertEqual(ask_behind([begins(2)] + before, plain()), [3, 0, 1, 2])


class TooLate(unittest.TestCase):
    def test_at_the_beginning(self):
        self.assertEqual(ask(pot(10, 0, 1, 10), plain()), [1, 1, 2, 20, 1])
        self.assertEqual(ask(pot(10, 0, 1, 9), plain()), [1, 1, 1, -6])

    def test_behind_a_filling(self):
        # Back at the tap at 2, at the other pot at 5.
        self.assertEqual(ask(pot(1, 0, 1, 100), pot(0, 3, 1, 5), plain()), [1, 1, 1, 2, 4, 8, 1, 0, 2])
        self.assertEqual(ask(pot(1, 0, 1, 100), pot(0, 3, 1, 4), plain()), [1, 1, 1, 2, 1, -6])

    def test_behind_a_pot(self):
        before = [begins(2), pot(1, 0, 1, 100)]
        self.assertEqual(ask_behind(before + [pot(0, 3, 1, 5)], plain()), [3, 8, 1, 2])
        self.assertEqual(ask_behind(before + [pot(0, 3, 1, 4)], plain()), [1, -6])

    def test_the_nearest_is_late_and_a_farther_one_is_not(self):
        # What is late once stays late, so it ends with nothing that can be done.
        before = [begins(3), tap(10, 0)]
        self.assertEqual(ask_behind(before + [pot(11, 0, 1, 0), pot(15, 0, 1, 9)], plain()), [1, -6])
        self.assertEqual(
            ask_behind(before + [pot(9, 0, 1, 9), pot(11, 0, 1, 2), pot(20, 0, 1, 90)], plain()), [1, -6])
        self.assertEqual(
            ask_behind(before + [pot(9, 0, 1, 9), pot(11, 0, 1, 3), pot(20, 0, 1, 90)], plain()), [4, 22, 1, 2, 3])

    def test_behind_the_second_filling(self):
        before = [pot(1, 0, 1, 100), pot(2, 0, 1, 100)]
        self.assertEqual(ask_behind(before + [pot(3, 0, 1, 9)], plain()), [6, 12, 1, 0, 2, 0, 3])
        self.assertEqual(ask_behind(before + [pot(3, 0, 1, 8)], plain()), [1, -6])

    def test_best_can_be_done_and_plain_cannot(self):
        before = [pot(1, 0, 1, 100), pot(0, 3, 1, 4)]
        self.assertEqual(ask_behind(before, best(), plain()), [5, 8, 1, 2, 0, 1, 1, -6])


if __name__ == "__main__":
    unittest.main()
