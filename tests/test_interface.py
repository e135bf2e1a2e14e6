import contextlib
import inspect
import io
import sys
import unittest

from lines import MOST, apart, begins, best, check, line, needs, plain, street, streets, together
from snowploughs.service import answers

LINE = line(
    begins(5, 6), street(10), street(20), apart(0, 1), together(0, 1), apart(1, 0), street(0), begins(), apart(9, 9),
    begins(1, 2, 3, 4), street(30), together(2, 2), check(0, 0, 1), check(1, 0, 1), check(0, 0), best(), needs(0, 1, 1),
    plain(), begins(7, 3), street(MOST), street(40), check(1), check(0), best(), needs(0, 3, 2), needs(2, 0, 0),
    plain(),
)
TOLD = [
    1, 0, 1, 0, 1, 1, 1, 0, 1, 0, 1, -4, 1, -1, 1, -1, 1, -2, 1, -1, 1, 2, 1, -4,
    3, -6, 0, 1, 3, -7, 0, 1, 1, -1, 1, -6, 1, -6, 6, 0, 20, 3, 1, 0, 1,
    1, 0, 1, -1, 1, 0, 5, 0, 40, 3, 0, 40, 5, 0, 40, 7, 40, 0, 5, 0, 40, 7, 1, 0, 1, 27, 1, -2, 4, 1, 40, 7, 0,
]


class InterfaceTest(unittest.TestCase):
    def test_numbers_as_they_stand_in_the_list(self):
        self.assertEqual(answers([0, 2, 10, 20, 1, 300, 1, 500, 2, 0, 1, 3, 0, 1]), [1, 0, 1, 0, 1, 1, 1, 0, 1, 0])
        self.assertEqual(answers([0, 0, 1, 1]), [1, -1, 1, 0])
        self.assertEqual(answers([0, 4, 1, 1, 1, 1, 1, 1]), [1, -1, 1, 0])
        self.assertEqual(answers([1, 1001]), [1, -1])
        self.assertEqual(answers([0, 2, 4, 6, 1, 10, 1, 9, 4, 2, 1, 0]), [1, 0, 1, 0, 1, 1, 5, 0, 9, 4, 9, 10])
        self.assertEqual(answers([0, 2, 4, 6, 1, 10, 1, 9, 5]), [1, 0, 1, 0, 1, 1, 6, 0, 9, 4, 1, 1, 0])
        self.assertEqual(answers([0, 2, 4, 6, 1, 10, 1, 9, 6, 0, 2, 3]), [1, 0, 1, 0, 1, 1, 1, 29])
        self.assertEqual(answers([0, 2, 4, 6, 1, 10, 1, 9, 7]), [1, 0, 1, 0, 1, 1, 5, 1, 9, 4, 1, 0])
        self.assertEqual(answers([4, 0, 5, 7, 4, 8, 0, 1, 2, 3, 4, 5, 6, 7, 6, 0, 1, 1, 1, 2]),
                         [4, 0, 0, 1, 0, 4, 0, 0, 1, 1, 3, 1, 0, 1, 1, -1, 1, 1, 1, 0])

    def test_which_refusals_have_streets_behind_them(self):
        told = answers(line(begins(5, 6), street(1), street(2), apart(1, 0), check(0, 0), together(0, 1), check(0, 1),
                            check(0), best(), needs(0, 1, 1), needs(2, 1, 1), needs(0, 0, 1), begins(), street(0),
                            apart(0, 2), apart(0, 1)))
        self.assertEqual(told, [1, 0, 1, 0, 1, 1, 1, 0, 3, -6, 1, 0, 1, 0, 3, -7, 0, 1, 1, -1, 1, -6, 1, -6, 1, -2,
                                1, -1, 1, -1, 1, -1, 1, -2, 1, -4])

    def test_for_each_call_a_count_and_the_answer(self):
        self.assertEqual(answers(LINE), TOLD)

    def test_a_list_of_whole_numbers_is_given_back(self):
        told = answers(LINE)
        self.assertIs(type(told), list)
        self.assertEqual({type(number) for number in told}, {int})

    def test_the_parameter_is_called_calls(self):
        self.assertEqual(answers(calls=[1, 5]), [1, 0])

    def test_what_is_handed_in_is_not_changed(self):
        calls = list(LINE)
        answers(calls)
        self.assertEqual(calls, LINE)

    def test_what_is_handed_in_is_not_changed_for_a_while_either(self):
        self.assertEqual(answers(Unchangeable(LINE)), TOLD)

    def test_nothing_is_kept_from_one_time_to_the_next(self):
        first = answers(LINE)
        answers(line(begins(9, 9, 9), *[street(3)] * 6, apart(0, 1), together(0, 1), best(), needs(2, 1, 1), plain()))
        self.assertEqual(answers(LINE), first)
        self.assertEqual(answers(line(apart(0, 1), street(5), street(6), apart(0, 1))), [1, -2, 1, 0, 1, 1, 1, 0])
        self.assertEqual(answers(line(best(), plain(), check())), [4, 0, 0, 1, 1, 3, 1, 0, 1, 4, 0, 0, 1, 0])

    def test_what_is_given_back_is_not_kept(self):
        told = answers(LINE)
        told.clear()
        self.assertEqual(answers(LINE), TOLD)

    def test_sixty_calls_of_the_longest(self):
        calls = line(*[begins(1, 2, 3, 4)] * 60)
        self.assertEqual(answers(calls), [1, -1] * 60)
        calls = line(*[check(0, 1, 2, 3, 4, 5, 6, 7)] * 60)
        self.assertEqual(answers(calls), [1, -1] * 60)

    def test_a_long_line_is_gone_through_by_a_loop(self):
        calls = line(begins(1, 1, 1), *streets(*[1] * 6), *[best(), needs(0, 1, 1)] * 4, *[plain()] * 45)
        limit = sys.getrecursionlimit()
        sys.setrecursionlimit(len(inspect.stack()) + 30)
        try:
            told = answers(calls)
        finally:
            sys.setrecursionlimit(limit)
        self.assertEqual(told[:14], [1, 0, 1, 0, 1, 1, 1, 2, 1, 3, 1, 4, 1, 5])
        self.assertEqual(told[14:], [10, 0, 2, 1, 90, 0, 0, 1, 1, 2, 2, 1, 4] * 4 + [9, 1, 2, 1, 0, 1, 2, 0, 1, 2] * 45)

    def test_nothing_is_printed(self):
        out = io.StringIO()
        err = io.StringIO()
        with contextlib.redirect_stdout(out), contextlib.redirect_stderr(err):
            answers(LINE)
        self.assertEqual((out.getvalue(), err.getvalue()), ("", ""))


def refuse(*_):
    raise AssertionError("the list that is handed in was changed")


class Unchangeable(list):
    """A list that fails on the spot when it is changed, so that a change that is undone is seen too."""

    append = extend = insert = remove = pop = clear = sort = reverse = refuse
    __setitem__ = __delitem__ = __iadd__ = __imul__ = refuse


if __name__ == "__main__":
    unittest.main()
