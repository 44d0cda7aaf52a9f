import unittest

from helper import ask, ask_behind, begins, check, pot, tap


class Begins(unittest.TestCase):
    def test_least_and_most_that_a_can_holds(self):
        self.assertEqual(ask(begins(1)), [1, 0])
        self.assertEqual(ask(begins(1000)), [1, 0])

    def test_nothing_or_too_much(self):
        for holds in (0, 1001, 1002, 4294967295):
            with self.subTest(holds=holds):
                self.assertEqual(ask(begins(holds)), [1, -1])

    def test_can_holds_what_was_told(self):
        for holds in (1, 2, 8, 1000):
            with self.subTest(holds=holds):
                self.assertEqual(
                    ask(begins(holds), pot(0, 0, holds + 1, 5), pot(0, 0, holds, 5)),
                    [1, 0, 1, -1, 1, 1])

    def test_without_begins_the_can_holds_one(self):
        self.assertEqual(ask(pot(0, 0, 2, 5), pot(0, 0, 1, 5)), [1, -1, 1, 1])

    def test_without_begins_the_tap_stands_at_0_0(self):
        self.assertEqual(ask(pot(3, 4, 1, 7), check(1)), [1, 1, 2, 14, 1])

    def test_without_begins_there_are_no_pots(self):
        self.assertEqual(ask(check(), check(1)), [2, 0, 0, 1, -1])

    def test_sets_all_else_back(self):
        before = [begins(9), tap(50, 60), pot(51, 60, 9, 10), pot(52, 60, 9, 10)]
        self.assertEqual(
            ask_behind(before, begins(4), check(), check(1), pot(3, 4, 5, 7), pot(3, 4, 4, 7), check(1)),
            [1, 0, 2, 0, 0, 1, -1, 1, -1, 1, 1, 2, 14, 1])

    def test_makes_room_for_five_pots_again(self):
        five = [pot(0, 0, 1, 0)] * 5
        self.assertEqual(
            ask(*five, begins(1), *five, pot(0, 0, 1, 0)),
            [1, 1, 1, 2, 1, 3, 1, 4, 1, 5, 1, 0, 1, 1, 1, 2, 1, 3, 1, 4, 1, 5, 1, -5])

    def test_a_refusal_leaves_all_as_it_was(self):
        before = [begins(3), tap(10, 10), pot(11, 10, 3, 1), pot(10, 12, 3, 4)]
        later = [check(1, 0, 2), pot(0, 0, 4, 0), pot(0, 0, 3, 0)]
        for holds in (0, 1001):
            with self.subTest(holds=holds):
                self.assertEqual(
                    ask_behind(before, begins(holds), *later),
                    [1, -1, 2, 6, 2, 1, -1, 1, 3])


if __name__ == "__main__":
    unittest.main()
