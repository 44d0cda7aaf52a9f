import unittest

from helper import ask_behind, begins, best, check, fewest, plain, pot, split, tap

YARD = [begins(5), tap(10, 10), pot(13, 10, 3, 100), pot(12, 14, 2, 100), pot(6, 10, 4, 100)]
FULL = [begins(2), tap(9, 9)] + [pot(9, 9 + k, 1, 1000) for k in (1, 2, 3, 4, 5)]
# Pot 2 is too far off for when it wilts.
HOPELESS = [begins(5), tap(10, 10), pot(11, 10, 3, 100), pot(10, 14, 2, 3)]

# Whatever is asked ahead of these, they tell the can, the tap and every pot.
LATER = (
    (YARD, [check(1, 2, 0, 3), check(2, 0, 3, 0, 1), best(), plain(), pot(0, 0, 6, 9), pot(10, 10, 5, 0)],
     [2, 22, 2, 2, 26, 3, 6, 22, 4, 1, 2, 0, 3, 5, 22, 1, 2, 0, 3, 1, -1, 1, 4]),
    (FULL, [check(5, 4, 0, 3, 2, 0, 1), best(), plain(), pot(0, 0, 3, 9), pot(0, 0, 2, 9)],
     [2, 18, 3, 9, 18, 24, 1, 0, 2, 3, 0, 4, 5, 8, 22, 1, 2, 0, 3, 4, 0, 5, 1, -1, 1, -5]),
    (HOPELESS, [check(2, 1), check(1, 2), best(), plain(), pot(0, 0, 6, 9), pot(10, 10, 5, 0)],
     [3, -6, 0, 2, 3, -6, 1, 2, 1, -6, 1, -6, 1, -1, 1, 3]),
)


class AsItWas(unittest.TestCase):
    def changes_nothing(self, before, later, expected, call):
        with self.subTest(before=before, call=call):
            self.assertEqual(ask_behind(before + [call], *later), expected)

    def test_best_split_fewest_and_plain(self):
        asked = (
            best(), fewest(), plain(), split(), split(0), split(6), split(1, 1), split(1, 2), split(2, 1),
            split(3, 1, 2), split(1, 3, 2), split(5, 4, 3, 2, 1), split(1, 2, 3, 1, 2, 3, 1, 2))
        for before, later, expected in LATER:
            for call in asked:
                self.changes_nothing(before, later, expected, call)

    def test_refusals_of_the_other_calls(self):
        refused = (
            begins(0), begins(1001), tap(1001, 0), tap(0, 1001), pot(1001, 0, 1, 9), pot(0, 0, 0, 9),
            pot(0, 0, 6, 9), pot(0, 0, 1, 1000001), check(6), check(0), check(), check(1, 1))
        for before, later, expected in LATER:
            for call in refused:
                self.changes_nothing(before, later, expected, call)

    def test_a_sixth_pot(self):
        self.changes_nothing(*LATER[1], pot(9, 9, 1, 9))

    def test_a_plan_that_cannot_be(self):
        self.changes_nothing(*LATER[0], check(1, 3, 2))
        self.changes_nothing(*LATER[2], check(2, 1))

    def test_several_behind_one_another(self):
        self.assertEqual(
            ask_behind(YARD, best(), split(2, 1, 3), plain(), fewest(), best(), split(2, 1, 3), plain(), fewest()),
            [6, 22, 4, 1, 2, 0, 3, 6, 22, 1, 2, 1, 0, 3, 5, 22, 1, 2, 0, 3, 7, 2, 22, 4, 1, 2, 0, 3] * 2)

    def test_a_pot_more_is_taken_in(self):
        # It wilts at once, so it is the first; without a 0 behind it the can does for 3 alone.
        self.assertEqual(
            ask_behind(YARD, best(), pot(10, 10, 1, 0), best()),
            [6, 22, 4, 1, 2, 0, 3, 1, 4, 8, 22, 6, 4, 0, 1, 2, 0, 3])


if __name__ == "__main__":
    unittest.main()
