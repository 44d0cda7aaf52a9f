import unittest

from helper import ask, ask_behind, begins, check, pot, tap

FIVE = [pot(0, 0, 1, 0)] * 5

WRONG = (
    pot(1001, 0, 1, 5),
    pot(0, 1001, 1, 5),
    pot(4294967295, 0, 1, 5),
    pot(0, 4294967295, 1, 5),
    pot(0, 0, 0, 5),
    pot(0, 0, 9, 5),
    pot(0, 0, 4294967295, 5),
    pot(0, 0, 1, 1000001),
    pot(0, 0, 1, 4294967295),
    pot(1001, 1001, 0, 1000001),
)


class PotCall(unittest.TestCase):
    def test_numbers_from_one_to_five(self):
        self.assertEqual(ask(*FIVE), [1, 1, 1, 2, 1, 3, 1, 4, 1, 5])

    def test_a_sixth(self):
        self.assertEqual(ask_behind(FIVE, pot(0, 0, 1, 0), pot(0, 0, 1, 0)), [1, -5, 1, -5])

    def test_spots_at_the_edge(self):
        for x, y in ((0, 0), (1000, 0), (0, 1000), (1000, 1000)):
            with self.subTest(x=x, y=y):
                self.assertEqual(ask(pot(x, y, 1, 5)), [1, 1])

    def test_as_much_water_as_the_can_holds(self):
        self.assertEqual(ask(begins(8), pot(0, 0, 1, 5), pot(0, 0, 8, 5)), [1, 0, 1, 1, 1, 2])

    def test_wilting_at_the_edge(self):
        self.assertEqual(ask(pot(0, 0, 1, 0), pot(0, 0, 1, 1000000)), [1, 1, 1, 2])

    def test_wrong_numbers(self):
        for call in WRONG:
            with self.subTest(call=call):
                self.assertEqual(ask(begins(8), call), [1, 0, 1, -1])

    def test_a_sixth_that_is_wrong_besides(self):
        for call in WRONG:
            with self.subTest(call=call):
                self.assertEqual(ask_behind([begins(8)] + FIVE, call), [1, -1])

    def test_what_was_told_is_what_is_kept(self):
        self.assertEqual(
            ask(begins(8), pot(2, 30, 5, 32), pot(2, 31, 3, 33), check(1, 2), check(2, 1)),
            [1, 0, 1, 1, 1, 2, 2, 66, 1, 3, -6, 1, 2])

    def test_two_at_one_spot_and_at_the_tap(self):
        self.assertEqual(
            ask(begins(2), tap(4, 4), pot(4, 4, 1, 0), pot(4, 4, 1, 0), check(2, 1)),
            [1, 0, 1, 0, 1, 1, 1, 2, 2, 0, 1])

    def test_a_wrong_one_leaves_all_as_it_was(self):
        before = [begins(8), tap(10, 10), pot(11, 10, 8, 1)]
        for call in WRONG:
            with self.subTest(call=call):
                self.assertEqual(
                    ask_behind(before, call, check(1), check(2), pot(0, 0, 9, 5), pot(0, 0, 8, 5)),
                    [1, -1, 2, 2, 1, 1, -1, 1, -1, 1, 2])

    def test_a_sixth_leaves_all_as_it_was(self):
        before = [begins(5), tap(10, 10)] + [pot(10 + k, 10, 1, 9) for k in (1, 2, 3, 4, 5)]
        self.assertEqual(
            ask_behind(before, pot(10, 10, 2, 9), check(1, 2, 3, 4, 5), check(6)),
            [1, -5, 2, 10, 1, 1, -1])


if __name__ == "__main__":
    unittest.main()
