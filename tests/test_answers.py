import unittest

from helper import begins, best, check, fewest, line, plain, pot, split, tap
from wateringround.yard import answers

CALLS = line(
    begins(5), tap(10, 10), pot(13, 10, 3, 100), pot(12, 14, 2, 100), begins(0), tap(1001, 0),
    pot(0, 0, 0, 0), check(1, 2), check(3), check(1), check(2, 0, 1), check(),
    best(), split(2, 1), split(3), split(1), fewest(), plain())
GIVEN = [
    1, 0, 1, 0, 1, 1, 1, 2, 1, -1, 1, -1,
    1, -1, 2, 14, 1, 1, -1, 1, -4, 2, 18, 2, 1, -4,
    4, 14, 2, 1, 2, 4, 14, 1, 2, 1, 1, -1, 1, -4, 5, 1, 14, 2, 1, 2, 3, 14, 1, 2]


class Unchanging(list):
    """A list that can be read but not changed."""

    def refuse(self, *unused, **named):
        raise RuntimeError("what is handed in is changed")

    __setitem__ = __delitem__ = __iadd__ = __imul__ = refuse
    append = clear = extend = insert = pop = remove = reverse = sort = refuse


class Answers(unittest.TestCase):
    def test_list_as_written_in_the_document(self):
        self.assertEqual(
            answers([0, 1, 8, 0, 1, 2, 3, 4, 0, 2, 4, 5, 6, 2, 90, 0, 2, 4, 5, 7, 2, 90, 0, 3, 3, 2, 0, 1, 0]),
            [1, 0, 1, 0, 1, 1, 1, 2, 2, 18, 2])

    def test_each_call_in_order(self):
        self.assertEqual(answers(CALLS), GIVEN)

    def test_sixty_calls(self):
        self.assertEqual(answers(line(*[check()] * 60)), [2, 0, 0] * 60)
        self.assertEqual(answers(line(*[plain()] * 60)), [1, 0] * 60)

    def test_sixty_calls_with_six_over_all_plans_of_five_pots(self):
        yard = [begins(2), tap(9, 9)] + [pot(9, 9 + k, 1, 1000) for k in (1, 2, 3, 4, 5)]
        asked = [best(), split(5, 4, 3, 2, 1), fewest(), best(), split(1, 2, 3, 4, 5), fewest()]
        calls = [*yard, *asked, *[plain()] * 46, check(1, 0, 2, 3, 0, 4, 5)]
        self.assertEqual(len(calls), 60)
        # Shortest with the farthest pots together: 10, 6 and 2 steps; plain has the nearest together: 4, 8 and 10.
        self.assertEqual(
            answers(line(*calls)),
            [1, 0, 1, 0, 1, 1, 1, 2, 1, 3, 1, 4, 1, 5]
            + [9, 18, 24, 1, 0, 2, 3, 0, 4, 5]
            + [9, 18, 1, 5, 4, 0, 3, 2, 0, 1]
            + [10, 3, 18, 24, 1, 0, 2, 3, 0, 4, 5]
            + [9, 18, 24, 1, 0, 2, 3, 0, 4, 5]
            + [9, 18, 1, 1, 0, 2, 3, 0, 4, 5]
            + [10, 3, 18, 24, 1, 0, 2, 3, 0, 4, 5]
            + [8, 22, 1, 2, 0, 3, 4, 0, 5] * 46
            + [2, 18, 3])

    def test_a_list_of_whole_numbers_is_given_back(self):
        given = answers(CALLS)
        self.assertIs(type(given), list)
        self.assertEqual({type(number) for number in given}, {int})

    def test_what_is_handed_in_is_not_changed(self):
        calls = list(CALLS)
        answers(calls)
        self.assertEqual(calls, CALLS)

    def test_what_is_handed_in_is_not_changed_for_a_while(self):
        self.assertEqual(answers(Unchanging(CALLS)), GIVEN)

    def test_nothing_is_kept_from_one_time_to_the_next(self):
        self.assertEqual(answers(CALLS), GIVEN)
        self.assertEqual(
            answers(line(check(), check(1), best(), pot(3, 4, 2, 9), pot(3, 4, 1, 9), check(1), best(), plain())),
            [2, 0, 0, 1, -1, 2, 0, 1, 1, -1, 1, 1, 2, 14, 1, 3, 14, 1, 1, 2, 14, 1])
        self.assertEqual(answers(CALLS), GIVEN)

    def test_what_was_given_back_is_not_kept(self):
        given = answers(CALLS)
        given.clear()
        self.assertEqual(answers(CALLS), GIVEN)


if __name__ == "__main__":
    unittest.main()
