import unittest

from helper import begins, check, line, pot, tap
from wateringround.yard import answers

CALLS = line(
    begins(5), tap(10, 10), pot(13, 10, 3, 100), pot(12, 14, 2, 100), begins(0), tap(1001, 0),
    pot(0, 0, 0, 0), check(1, 2), check(3), check(1), check(2, 0, 1), check())
GIVEN = [1, 0, 1, 0, 1, 1, 1, 2, 1, -1, 1, -1, 1, -1, 2, 14, 1, 1, -1, 1, -4, 2, 18, 2, 1, -4]


class Unchanging(list):
    """A list that can be read but not changed."""

    def refuse(self, *unused, **named):
        raise RuntimeError("what is handed in is changed")

    __setitem__ = __delitem__ = __iadd__ = __imul__ = refuse
    append = clear = extend = insert = pop = remove = reverse = sort = refuse


class Answers(unittest.TestCase):
    def test_list_as_written_in_the_document(self):
        self.assertEqual(
            answers([0, 1, 8, 0, 1, 2, 3, 4, 0, 2, 4, 5, 6, 2, 90, 0, 2, 4, 5, 7, 2, 90, 0, 3, 3, 2, 0, 1, 0]),
            [1, 0, 1, 0, 1, 1, 1, 2, 2, 18, 2])

    def test_each_call_in_order(self):
        self.assertEqual(answers(CALLS), GIVEN)

    def test_sixty_calls(self):
        self.assertEqual(answers(line(*[check()] * 60)), [2, 0, 0] * 60)

    def test_a_list_of_whole_numbers_is_given_back(self):
        given = answers(CALLS)
        self.assertIs(type(given), list)
        self.assertEqual({type(number) for number in given}, {int})

    def test_what_is_handed_in_is_not_changed(self):
        calls = list(CALLS)
        answers(calls)
        self.assertEqual(calls, CALLS)

    def test_what_is_handed_in_is_not_changed_for_a_while(self):
        self.assertEqual(answers(Unchanging(CALLS)), GIVEN)

    def test_nothing_is_kept_from_one_time_to_the_next(self):
        self.assertEqual(answers(CALLS), GIVEN)
        self.assertEqual(
            answers(line(check(), check(1), pot(3, 4, 2, 9), pot(3, 4, 1, 9), check(1))),
            [2, 0, 0, 1, -1, 1, -1, 1, 1, 2, 14, 1])
        self.assertEqual(answers(CALLS), GIVEN)

    def test_what_was_given_back_is_not_kept(self):
        given = answers(CALLS)
        given.clear()
        self.assertEqual(answers(CALLS), GIVEN)


if __name__ == "__main__":
    unittest.main()
