"""How calls stand in the list that is handed in, and answers in the list that is given back."""

import contextlib
import io
import unittest

from mirrorwordsdesk.mirrors import answers
from tests.helper import ask, back, begins, ends, form, length, make, power, same, times, word

SEVERAL = (make(3, [3, 2, 3]) + form([2, 1, 2, 1, 0]) + times([0, 1], [2]) + back([0, 1, 2]) + power(-2, [0, 1])
           + length([0, 0, 1]) + same([0, 1, 0], [1, 0, 1]) + begins([2, 0, 1]) + ends([2, 0, 1]) + form([3])
           + make(2, [0]) + power(3, [0, 1] * 16) + same([0, 1, 0], [1, 0, 1]) + make(0, []) + form([1, 0, 1]))

TOLD = ([2, 0, 0] + [5, 0, 3, 1, 0, 2] + [5, 0, 3, 0, 1, 2] + [5, 0, 3, 2, 1, 0] + [4, 0, 2, 0, 1]
        + [2, 0, 1] + [2, 0, 1] + [4, 0, 2, 0, 2] + [3, 0, 1, 1] + [1, -1]
        + [2, 0, 0] + [1, -2] + [2, 0, 0] + [1, -1] + [5, 0, 3, 1, 0, 1])


class Fixed(list):
    """A list that may be read alone."""

    def refuse(self, *rest, **named):
        raise AssertionError("what is handed in was changed")

    append = extend = insert = pop = remove = clear = reverse = sort = refuse
    __setitem__ = __delitem__ = __iadd__ = __imul__ = refuse


class Interface(unittest.TestCase):
    def test_the_empty_list(self):
        self.assertEqual(answers([]), [])

    def test_the_numbers_of_the_calls(self):
        self.assertEqual(answers([0, 2, 1, 3]), [2, 0, 0])
        self.assertEqual(answers([1, 3, 0, 0, 0]), [3, 0, 1, 0])
        self.assertEqual(answers([2, 1, 0, 2, 0, 0]), [3, 0, 1, 0])
        self.assertEqual(answers([3, 0]), [2, 0, 0])
        self.assertEqual(answers([4, -3, 1, 0]), [3, 0, 1, 0])
        self.assertEqual(answers([5, 1, 0]), [2, 0, 1])
        self.assertEqual(answers([6, 1, 0, 0]), [2, 0, 0])
        self.assertEqual(answers([7, 1, 0]), [3, 0, 1, 0])
        self.assertEqual(answers([8, 2, 0, 0]), [2, 0, 0])

    def test_several_calls_behind_one_another(self):
        self.assertEqual(answers(list(SEVERAL)), TOLD)

    def test_what_is_handed_in_is_not_changed(self):
        handed = list(SEVERAL)
        answers(handed)
        self.assertEqual(handed, SEVERAL)

    def test_what_is_handed_in_is_not_changed_for_a_while_either(self):
        self.assertEqual(answers(Fixed(SEVERAL)), TOLD)

    def test_nothing_is_kept_from_one_time_to_the_next(self):
        self.assertEqual(answers(list(SEVERAL)), answers(list(SEVERAL)))
        answers(make(8, [5] * 28))
        self.assertEqual(answers(form([1])), [1, -1])
        self.assertEqual(answers(list(SEVERAL)), TOLD)

    def test_what_is_given_back_is_new_each_time(self):
        given = answers(list(SEVERAL))
        given.clear()
        self.assertEqual(answers(list(SEVERAL)), TOLD)

    def test_whole_numbers_alone_are_given_back(self):
        told = answers(list(SEVERAL))
        self.assertIs(type(told), list)
        for number in told:
            self.assertIs(type(number), int)

    def test_nothing_is_printed(self):
        out, err = io.StringIO(), io.StringIO()
        with contextlib.redirect_stdout(out), contextlib.redirect_stderr(err):
            answers(list(SEVERAL))
        self.assertEqual(out.getvalue() + err.getvalue(), "")

    def test_four_hundred_calls(self):
        w = [0, 1, 2] * 10 + [0, 1]
        told = ask(make(3, [0, 0, 0]), *[times(w, w[::-1])] * 398, times(w, [2] + w[:31]))
        self.assertEqual(told[1:-1], [word([])] * 398)
        self.assertEqual(told[-1], word(w + [2] + w[:31]))


if __name__ == "__main__":
    unittest.main()
