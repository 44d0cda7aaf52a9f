import unittest

from helper import ask, ask_behind, begins, check, pot, tap


class Tap(unittest.TestCase):
    def test_spots_within_the_yard(self):
        for x, y in ((0, 0), (3, 4), (1000, 0), (0, 1000), (1000, 1000)):
            with self.subTest(x=x, y=y):
                self.assertEqual(ask(tap(x, y)), [1, 0])

    def test_spots_outside(self):
        for x, y in ((1001, 0), (0, 1001), (1001, 1001), (1000, 1001), (1001, 1000), (4294967295, 0), (0, 4294967295)):
            with self.subTest(x=x, y=y):
                self.assertEqual(ask(tap(x, y)), [1, -1])

    def test_it_stands_there(self):
        self.assertEqual(
            ask(tap(1000, 0), pot(0, 1000, 1, 2000), check(1)),
            [1, 0, 1, 1, 2, 4000, 1])

    def test_x_and_y_are_not_mixed_up(self):
        self.assertEqual(ask(tap(3, 40), pot(4, 42, 1, 3), check(1)), [1, 0, 1, 1, 2, 6, 1])

    def test_the_pots_stay_when_it_is_moved(self):
        self.assertEqual(
            ask(pot(5, 5, 1, 10), check(1), tap(5, 4), check(1), tap(0, 0), check(1)),
            [1, 1, 2, 20, 1, 1, 0, 2, 2, 1, 1, 0, 2, 20, 1])

    def test_the_can_stays_when_it_is_moved(self):
        self.assertEqual(ask(begins(7), tap(1, 1), pot(1, 1, 8, 0), pot(1, 1, 7, 0)), [1, 0, 1, 0, 1, -1, 1, 1])

    def test_a_refusal_leaves_all_as_it_was(self):
        before = [begins(3), tap(10, 10), pot(11, 10, 3, 1)]
        for x, y in ((1001, 5), (5, 1001)):
            with self.subTest(x=x, y=y):
                self.assertEqual(
                    ask_behind(before, tap(x, y), check(1), pot(0, 0, 4, 0), pot(0, 0, 3, 0)),
                    [1, -1, 2, 2, 1, 1, -1, 1, 2])


if __name__ == "__main__":
    unittest.main()
