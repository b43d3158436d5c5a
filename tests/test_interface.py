"""How calls stand in the list that is handed in, and answers in the list that is given back."""

import contextlib
import io
import time
import unittest
from random import Random

from mirrorwordsdesk.mirrors import answers
from tests.helper import (TURNS, ask, back, begins, below, beside, branched, count, ends, form, forked, joined, length,
                          longest, make, mirror, order, pairs, parts, power, row_of, same, size, times, ways, word)

SEVERAL = (make(3, [3, 2, 3]) + form([2, 1, 2, 1, 0]) + times([0, 1], [2]) + back([0, 1, 2]) + power(-2, [0, 1])
           + length([0, 0, 1]) + same([0, 1, 0], [1, 0, 1]) + begins([2, 0, 1]) + ends([2, 0, 1]) + form([3])
           + make(2, [0]) + power(3, [0, 1] * 16) + same([0, 1, 0], [1, 0, 1]) + make(0, []) + form([1, 0, 1])
           + below([0], [1, 0, 1]) + order([0, 1]) + mirror([0, 1, 0]) + ways([0, 1] * 11) + parts(1, [1, 0])
           + size(3) + longest(3) + joined(2) + count(3, 4) + joined(4) + count(3, 5)
           + make(4, [2, 4, 2, 2, 5, 2]) + below([1, 3], [3, 1, 2]) + order([0, 2, 1, 3]) + mirror([1, 3, 1])
           + ways([3, 1, 3, 1, 3, 0]) + parts(10, [0, 1, 2, 3]) + size(15) + longest(5) + joined(13) + count(15, 2)
           + length([0, 2, 0, 2, 0]) + make(1, []) + size(1) + joined(1))

TOLD = ([2, 0, 0] + [5, 0, 3, 1, 0, 2] + [5, 0, 3, 0, 1, 2] + [5, 0, 3, 2, 1, 0] + [4, 0, 2, 0, 1]
        + [2, 0, 1] + [2, 0, 1] + [4, 0, 2, 0, 2] + [3, 0, 1, 1] + [1, -1]
        + [2, 0, 0] + [1, -2] + [2, 0, 0] + [1, -1] + [5, 0, 3, 1, 0, 1]
        + [2, 0, 1] + [2, 0, 0] + [2, 0, 2] + [1, -2] + [5, 0, 1, 1, 1, 0]
        + [2, 0, 0] + [1, -2] + [6, 0, 1, 1, 2, 0, 1] + [2, 0, 2] + [1, -1] + [1, -1]
        + [2, 0, 0] + [2, 0, 0] + [2, 0, 20] + [2, 0, 2]
        + [2, 0, 12] + [7, 0, 2, 0, 2, 2, 1, 3] + [2, 0, 80] + [6, 0, 4, 0, 2, 0, 2] + [8, 0, 1, 2, 4, 1, 0, 1, 2]
        + [2, 0, 8] + [2, 0, 3] + [2, 0, 0] + [2, 0, 2] + [5, 0, 1, 1, 1, 1])


class Fixed(list):
    """A list that may be read alone."""

    def refuse(self, *rest, **named):
        raise AssertionError("what is handed in was changed")

    append = extend = insert = pop = remove = clear = reverse = sort = refuse
    __setitem__ = __delitem__ = __iadd__ = __imul__ = refuse


class Interface(unittest.TestCase):
    def test_the_empty_list(self):
        self.assertEqual(answers([]), [])

    def test_the_numbers_of_the_calls(self):
        self.assertEqual(answers([0, 2, 1, 3]), [2, 0, 0])
        self.assertEqual(answers([1, 3, 0, 0, 0]), [3, 0, 1, 0])
        self.assertEqual(answers([2, 1, 0, 2, 0, 0]), [3, 0, 1, 0])
        self.assertEqual(answers([3, 0]), [2, 0, 0])
        self.assertEqual(answers([4, -3, 1, 0]), [3, 0, 1, 0])
        self.assertEqual(answers([5, 1, 0]), [2, 0, 1])
        self.assertEqual(answers([6, 1, 0, 0]), [2, 0, 0])
        self.assertEqual(answers([7, 1, 0]), [3, 0, 1, 0])
        self.assertEqual(answers([8, 2, 0, 0]), [2, 0, 0])
        self.assertEqual(answers([9, 0, 1, 0]), [2, 0, 1])
        self.assertEqual(answers([9, 1, 0, 0]), [2, 0, 0])
        self.assertEqual(answers([10, 1, 0]), [2, 0, 2])
        self.assertEqual(answers([11, 1, 0]), [2, 0, 1])
        self.assertEqual(answers([12, 1, 0]), [2, 0, 1])
        self.assertEqual(answers([13, 1, 1, 0]), [4, 0, 0, 1, 0])
        self.assertEqual(answers([13, 0, 1, 0]), [4, 0, 1, 0, 0])
        self.assertEqual(answers([14, 1]), [2, 0, 2])
        self.assertEqual(answers([15, 1]), [3, 0, 1, 0])
        self.assertEqual(answers([16, 1]), [5, 0, 1, 1, 1, 1])
        self.assertEqual(answers([17, 1, 0]), [2, 0, 1])
        self.assertEqual(answers([17, 0, 1]), [2, 0, 0])

    def test_several_calls_behind_one_another(self):
        self.assertEqual(answers(list(SEVERAL)), TOLD)

    def test_what_is_handed_in_is_not_changed(self):
        handed = list(SEVERAL)
        answers(handed)
        self.assertEqual(handed, SEVERAL)

    def test_what_is_handed_in_is_not_changed_for_a_while_either(self):
        self.assertEqual(answers(Fixed(SEVERAL)), TOLD)

    def test_nothing_is_kept_from_one_time_to_the_next(self):
        self.assertEqual(answers(list(SEVERAL)), answers(list(SEVERAL)))
        answers(make(8, [5] * 28))
        self.assertEqual(answers(form([1])), [1, -1])
        self.assertEqual(answers(list(SEVERAL)), TOLD)

    def test_what_is_given_back_is_new_each_time(self):
        given = answers(list(SEVERAL))
        given.clear()
        self.assertEqual(answers(list(SEVERAL)), TOLD)

    def test_whole_numbers_alone_are_given_back(self):
        told = answers(list(SEVERAL))
        self.assertIs(type(told), list)
        for number in told:
            self.assertIs(type(number), int)

    def test_nothing_is_printed(self):
        out, err = io.StringIO(), io.StringIO()
        with contextlib.redirect_stdout(out), contextlib.redirect_stderr(err):
            answers(list(SEVERAL))
        self.assertEqual(out.getvalue() + err.getvalue(), "")

    def test_four_hundred_calls(self):
        w = [0, 1, 2] * 10 + [0, 1]
        told = ask(make(3, [0, 0, 0]), *[times(w, w[::-1])] * 398, times(w, [2] + w[:31]))
        self.assertEqual(told[1:-1], [word([])] * 398)
        self.assertEqual(told[-1], word(w + [2] + w[:31]))

    def test_every_kind_behind_every_other(self):
        """What a call answers hangs on the last make alone, wherever it stands."""
        dice = Random(31)
        group = (4, [3, 2, 5, 4, 2, 3])
        v, w = [3, 1, 0, 2, 2, 1], [0, 1, 0, 3, 2]
        calls = [form(w), times(v, w), back(w), power(-3, w), length(w), same(v, w), begins(w), ends(w), below(v, w),
                 order(w), mirror(w), ways(w), parts(6, w), size(3), longest(10), joined(13), count(7, 3), form([4]),
                 make(9, []), parts(16, w), size(16), longest(15), joined(99), count(1, 5), below(v, [9]), ways(w * 7)]
        alone = [ask(make(*group), call)[1] for call in calls]
        places = [dice.randrange(len(calls)) for _ in range(398)]
        for first in (0, 7, 25):
            row = [(first + k) % len(calls) for k in places]
            self.assertEqual(ask(make(*group), *[calls[k] for k in row])[1:], [alone[k] for k in row])

    def test_refusals_of_calls_with_long_rows(self):
        told = ask(below([0] * 200, [255] * 200), size(1), ways([7] * 200), parts(4294967295, [0] * 200), size(1),
                   count(4294967295, 4294967295), longest(4294967295), joined(4294967295), size(4294967295), size(1))
        self.assertEqual(told, [[-1], [0, 2], [-1], [-1], [0, 2], [-1], [-1], [-1], [-1], [0, 2]])


class FourHundredCallsInAShortTime(unittest.TestCase):
    """Each list of calls must be answered within some seconds, by far."""

    MOST_SECONDS = 30

    def hold(self, group, calls):
        begin = time.monotonic()
        told = ask(make(*group), *calls)
        self.assertLess(time.monotonic() - begin, self.MOST_SECONDS)
        self.assertEqual(len(told), 400)
        return told[1:]

    def test_orders(self):
        dice = Random(32)
        group = (8, [dice.choice(TURNS) for _ in pairs(8)])
        self.hold(group, [order([dice.randrange(8) for _ in range(32)]) for _ in range(399)])
        self.hold(row_of(8, 5), [order([dice.randrange(8) for _ in range(32)]) for _ in range(399)])

    def test_counts(self):
        for turn in (0, 5):
            self.assertEqual(self.hold((8, [turn] * 28), [count(255, 4)] * 399), [[0, 2744]] * 399)

    def test_ways(self):
        two_rows = beside(row_of(4, 3), row_of(4, 3))
        stairs = [0, 1, 0, 2, 1, 0, 3, 2, 1, 0]
        w = stairs + [s + 4 for s in stairs]
        self.assertEqual(self.hold(two_rows, [ways(w)] * 399), [[0, 108973522944]] * 399)
        self.assertEqual(self.hold(forked(5), [ways([0, 1, 2, 3, 4] * 4)] * 399), [[0, 12985968]] * 399)
        self.hold(branched(8), [ways([0, 1, 2, 3, 4, 5, 6, 7] * 2 + [s % 8, 3, 2, 4]) for s in range(399)])

    def test_sets(self):
        self.assertEqual(self.hold(branched(8), [size(255)] * 399), [[0, 696729600]] * 399)
        self.assertEqual(self.hold(branched(8), [longest(255)] * 399), [[-2]] * 399)
        self.hold(row_of(8, 4), [longest(255)] * 399)
        self.hold((8, [0] * 28), [size(255)] * 399)

    def test_words(self):
        dice = Random(33)
        for turns in ([0] * 28, [5] * 28):
            v, w = ([dice.randrange(8) for _ in range(32)] for _ in range(2))
            self.hold((8, turns), [below(v, w)] * 399)
            self.hold((8, turns), [parts(170, w)] * 399)
            self.hold((8, turns), [mirror(w[:15] + [3] + w[14::-1])] * 399)
            self.hold((8, turns), [power(4, w)] * 399)

    def test_makes(self):
        self.hold((8, [5] * 28), [make(8, [5] * 28)] * 399)


if __name__ == "__main__":
    unittest.main()
