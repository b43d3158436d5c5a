"""Each of the calls below, order, mirror, ways and parts: ordinary words, the edges that the document names, and
what is refused."""

import unittest
from math import comb, factorial

from tests.helper import (TURNS, ask, ask_of, back, below, beside, branched, by_turns, form, forked, length,
                          line_of_threes, make, mirror, mirrors_with, one, order, pairs, parts, power, row_of, same,
                          two_words, ways, word)

REFUSED = [-1]
TOO_LONG = [-2]
YES = [0, 1]
NO = [0, 0]
THREE = (3, [3, 2, 3])
FREE_THREE = (3, [0, 0, 0])
CUBE = (3, [4, 2, 3])


def rising_stairs(first, last):
    """The longest word of the mirrors first to last in a row of threes."""
    return [s for top in range(first, last + 1) for s in range(top, first - 1, -1)]


def calls_with(w):
    return [below(w, []), below([], w), below(w, w), order(w), mirror(w), ways(w), parts(0, w), parts(1, w)]


class Below(unittest.TestCase):
    def test_ordinary_words(self):
        for v, w, wanted in (([0], [0, 1], YES), ([1], [0, 1], YES), ([0, 1], [0], NO), ([1, 0], [0, 1], NO),
                             ([0, 2], [2, 1, 0], YES), ([2, 0], [0, 1, 2], YES), ([2, 1], [0, 1, 2], NO),
                             ([1, 2, 1], [0, 1, 0, 2, 1, 0], YES), ([2], [0, 1, 0], NO), ([1, 0], [1, 0, 1], YES),
                             ([0, 1], [1, 0, 1], YES), ([0, 1, 2], [1, 0, 2, 1], NO), ([1, 2], [1, 0, 2, 1], YES)):
            self.assertEqual(one(THREE, below(v, w)), wanted, (v, w))

    def test_each_word_lies_below_itself(self):
        for w in ([], [0], [2, 1, 0], [0, 1, 2] * 10 + [0, 1]):
            for group in (THREE, FREE_THREE, CUBE):
                self.assertEqual(one(group, below(w, w)), YES)

    def test_the_empty_word(self):
        self.assertEqual(ask(below([], []), below([], [0]), below([0], []), below([0, 0], [])), [YES, YES, NO, YES])

    def test_words_that_are_not_shortest(self):
        self.assertEqual(one(THREE, below([1], [0, 1, 1, 0])), NO)
        self.assertEqual(one(THREE, below([0, 0, 1, 2, 2], [1])), YES)
        self.assertEqual(one(FREE_THREE, below([0, 2], [0, 1, 1, 0, 2])), NO)

    def test_two_mirrors(self):
        for turn in TURNS:
            for many in range(1, 7):
                for fewer in range(1, many + 1):
                    v, w = by_turns(0, 1, fewer), by_turns(1, 0, many)
                    wanted = YES if fewer < many or many == turn else NO
                    if not turn or many <= turn:
                        self.assertEqual(one((2, [turn]), below(v, w)), wanted, (turn, v, w))

    def test_mirrors_without_turns(self):
        w = [0, 1, 2] * 10 + [0, 1]
        self.assertEqual(one(FREE_THREE, below([0] + [1, 2, 0] * 10 + [1], w)), YES)
        self.assertEqual(one(FREE_THREE, below([0, 2] * 10 + [1], w)), YES)
        self.assertEqual(one(FREE_THREE, below([2, 0] * 10 + [1], w)), YES)
        self.assertEqual(one(FREE_THREE, below([2, 1] * 10, w)), YES)
        self.assertEqual(one(FREE_THREE, below([2, 1] * 10 + [2], w)), NO)
        self.assertEqual(one(FREE_THREE, below([1, 2, 0] * 10 + [1, 2], w)), NO)


class Order(unittest.TestCase):
    def test_ordinary_words(self):
        for w, wanted in (([0], 2), ([0, 1], 3), ([0, 2], 2), ([0, 1, 2], 4), ([0, 1, 0], 2), ([0, 1, 2, 1], 3),
                          ([0, 1, 0, 2, 1, 0], 2), ([0, 0], 1)):
            self.assertEqual(one(THREE, order(w)), [0, wanted], w)

    def test_the_empty_word(self):
        self.assertEqual(ask(order([]), order([0]), order([0, 0])), [[0, 1], [0, 2], [0, 1]])

    def test_two_mirrors(self):
        for turn in TURNS:
            self.assertEqual(one((2, [turn]), order([0, 1])), [0, turn])
            self.assertEqual(one((2, [turn]), order([1, 0])), [0, turn])
        self.assertEqual(ask_of(2, [6], [order(by_turns(0, 1, 2 * k)) for k in range(1, 7)]),
                         [[0, 6], [0, 3], [0, 2], [0, 3], [0, 6], [0, 1]])
        self.assertEqual(ask_of(2, [0], [order(by_turns(0, 1, k)) for k in range(33)]),
                         [[0, 1]] + [[0, 2 if k % 2 else 0] for k in range(1, 33)])

    def test_all_mirrors_once(self):
        wanted = [(row_of(8, 3), 9), (row_of(8, 4), 16), (forked(8), 14), (branched(6), 12), (branched(7), 18),
                  (branched(8), 30), (row_of(4, 5), 30), (row_of(3, 5), 10), ((4, [3, 2, 2, 4, 2, 3]), 12)]
        for group, right in wanted:
            self.assertEqual(one(group, order(list(range(group[0])))), [0, right], group)

    def test_words_without_one(self):
        ring = mirrors_with(8, {(0, 7): 3, **{(s, s + 1): 3 for s in range(7)}})
        for group in ((3, [3, 3, 3]), (3, [4, 2, 4]), (3, [6, 2, 3]), (3, [5, 5, 2]), row_of(5, 5), ring):
            self.assertEqual(one(group, order(list(range(group[0])))), [0, 0], group)
        self.assertEqual(one(FREE_THREE, order([0, 1, 2] * 10 + [0, 1])), [0, 0])

    def test_an_order_of_120(self):
        group = beside(row_of(4, 5), row_of(4, 4))
        calls = [order([0, 1, 2, 3, 4, 5, 6, 7]), order([7, 3, 6, 2, 5, 1, 4, 0]), order([4, 5, 6, 7]),
                 order([5, 1, 0, 1, 2, 3, 4, 5, 6, 7, 1, 5])]
        self.assertEqual(ask_of(*group, calls), [[0, 120], [0, 120], [0, 8], [0, 120]])
        group = beside(beside((2, [5]), (2, [3])), row_of(4, 4))
        self.assertEqual(one(group, order(list(range(8)))), [0, 120])
        self.assertEqual(one(group, order([0, 1, 4, 5, 6, 7])), [0, 40])
        self.assertEqual(one(group, order([2, 3, 4, 5, 6, 7])), [0, 24])

    def test_a_word_that_is_seen_in_long_others(self):
        u = [0, 1, 2] * 5
        group = (3, [3, 0, 0])
        self.assertEqual(one(group, order(u + [0, 1] + u[::-1])), [0, 3])
        self.assertEqual(one(group, order(u + [2] + u[::-1])), [0, 2])
        self.assertEqual(one(group, order(u + [0, 2] + u[::-1])), [0, 0])


class Mirror(unittest.TestCase):
    def test_ordinary_words(self):
        for w, wanted in (([0], 1), ([1], 1), ([2], 1), ([0, 1, 0], 1), ([2, 1, 0, 1, 2], 1), ([0, 1], 0),
                          ([0, 2], 0), ([0, 1, 2], 0), ([1, 0, 2], 0), ([0, 1, 0, 2, 1, 0], 0), ([1, 1, 2], 1)):
            self.assertEqual(one(THREE, mirror(w)), [0, wanted], w)

    def test_a_word_that_is_none(self):
        self.assertEqual(ask(mirror([]), mirror([0, 0]), mirror([0])), [[0, 0], [0, 0], [0, 1]])
        commuting = (3, [2, 2, 2])
        self.assertEqual(ask_of(*commuting, [mirror([0, 1, 2]), mirror([1, 2]), mirror([2])]), [NO, NO, [0, 3]])
        self.assertEqual(one(CUBE, mirror([0, 1, 2] * 3)), NO)
        self.assertEqual(one(FREE_THREE, mirror([0, 1, 2, 1, 2])), NO)

    def test_the_least_is_another_than_the_middle_one(self):
        self.assertEqual(ask_of(*CUBE, [form([2, 1, 2]), mirror([2, 1, 2]), mirror([2]), mirror([1]), mirror([0])]),
                         [word([1, 2, 1]), [0, 2], [0, 2], [0, 2], [0, 1]])
        self.assertEqual(ask_of(*CUBE, [mirror([1, 0, 1]), mirror([2, 1, 0, 1, 2]), mirror([0, 1, 0])]),
                         [[0, 1], [0, 1], [0, 2]])

    def test_each_turn(self):
        for turn in TURNS:
            wanted = [0, 1 if turn % 2 else 2]
            self.assertEqual(one((2, [turn]), mirror([1])), wanted)
            self.assertEqual(one((2, [turn]), mirror([0, 1, 0])), wanted)
            self.assertEqual(one((2, [turn]), mirror([0])), [0, 1])

    def test_steps_of_odd_turns(self):
        group = mirrors_with(8, {(3, 7): 3, (3, 6): 5, (2, 6): 3, (1, 5): 3, (4, 5): 5, (0, 4): 4, (2, 5): 6,
                                 (0, 1): 0, (1, 2): 4})
        self.assertEqual(ask_of(*group, [mirror([s]) for s in range(8)]), [[0, s + 1] for s in (0, 1, 2, 2, 1, 1, 2, 2)])
        self.assertEqual(one(group, mirror([0, 1, 2, 3, 4, 5, 6, 7, 6, 5, 4, 3, 2, 1, 0])), [0, 3])

    def test_mirrors_seen_in_long_words(self):
        u = [0, 1, 2] * 5
        self.assertEqual(ask_of(*FREE_THREE, [mirror(u + [s] + u[::-1]) for s in range(3)]), [[0, 1], [0, 2], [0, 3]])
        self.assertEqual(one(FREE_THREE, mirror(u + [0, 1, 0, 1])), NO)
        self.assertEqual(one(FREE_THREE, mirror(u + [0] + u[:0:-1])), NO)


class Ways(unittest.TestCase):
    def test_ordinary_words(self):
        for w, wanted in (([0], 1), ([0, 1], 1), ([0, 2], 2), ([0, 1, 0], 2), ([0, 1, 0, 2, 1, 0], 16), ([1, 0, 2, 1], 2),
                          ([0, 2, 1], 2), ([0, 1, 0, 2], 3), ([0, 0], 1), ([1, 1, 2, 0], 2)):
            self.assertEqual(one(THREE, ways(w)), [0, wanted], w)

    def test_the_empty_word(self):
        self.assertEqual(ask(ways([]), ways([0, 0]), ways([0])), [YES, YES, YES])

    def test_two_mirrors(self):
        for turn in TURNS:
            for many in range(1, 7):
                if not turn or many <= turn:
                    self.assertEqual(one((2, [turn]), ways(by_turns(1, 0, many))), [0, 2 if many == turn else 1])

    def test_longest_words(self):
        self.assertEqual(one((4, line_of_threes(4)), ways(rising_stairs(0, 3))), [0, 768])
        self.assertEqual(one((5, line_of_threes(5)), ways(rising_stairs(0, 4))), [0, 292864])
        self.assertEqual(one(CUBE, ways([0, 1, 2] * 3)), [0, 42])
        self.assertEqual(one(row_of(4, 4), ways([0, 1, 2, 3] * 4)), [0, 24024])
        self.assertEqual(one(row_of(3, 5), ways([0, 1, 2] * 5)), [0, 286])
        self.assertEqual(one((8, [2] * 28), ways(range(8))), [0, factorial(8)])

    def test_a_length_of_20_is_answered(self):
        fives = beside(beside((2, [5]), (2, [5])), beside((2, [5]), (2, [5])))
        w = [s for first in (0, 2, 4, 6) for s in by_turns(first, first + 1, 5)]
        self.assertEqual(one(fives, ways(w)), [0, 2 ** 4 * factorial(20) // factorial(5) ** 4])
        two_rows = beside((4, line_of_threes(4)), (4, line_of_threes(4)))
        w = rising_stairs(0, 3) + rising_stairs(4, 7)
        self.assertEqual(one(two_rows, ways(w)), [0, 768 ** 2 * comb(20, 10)])
        self.assertEqual(one(FREE_THREE, ways(by_turns(0, 2, 20))), YES)
        self.assertEqual(one(FREE_THREE, ways(by_turns(0, 2, 20) + by_turns(1, 2, 6) + by_turns(2, 1, 6))), YES)

    def test_lengths_of_20_before_a_longest_of_21(self):
        group = (6, line_of_threes(6))
        w = rising_stairs(0, 5)
        told = ask_of(*group, [length(w + [s]) for s in range(6)] + [ways(w + [s]) for s in range(6)])
        self.assertEqual(told[:6], [[0, 20]] * 6)
        wanted = factorial(21) // (3 ** 5 * 5 ** 4 * 7 ** 3 * 9 ** 2 * 11)
        self.assertEqual(sum(answer[1] for answer in told[6:]), wanted)

    def test_a_length_of_21_is_too_long(self):
        self.assertEqual(one((6, line_of_threes(6)), ways(rising_stairs(0, 5))), TOO_LONG)
        self.assertEqual(one(FREE_THREE, ways(by_turns(0, 2, 21))), TOO_LONG)
        self.assertEqual(one(FREE_THREE, ways(by_turns(0, 2, 32))), TOO_LONG)
        self.assertEqual(one((2, [0]), ways(by_turns(0, 1, 26) + (1, 0, 1, 0, 1))), TOO_LONG)
        self.assertEqual(one((2, [0]), ways(by_turns(0, 1, 26) + (1, 0, 1, 0, 1, 0))), YES)


class Parts(unittest.TestCase):
    def test_ordinary_words(self):
        for members, w, a, b in ((1, [1, 0], [1], [0]), (2, [1, 0], [1, 0], []), (3, [1, 0], [], [1, 0]),
                                 (4, [2, 0], [0], [2]), (1, [2, 0], [2], [0]), (5, [1, 2, 0], [1], [0, 2]),
                                 (6, [0, 1, 0, 2, 1, 0], [2, 1, 0], [1, 2, 1]),
                                 (3, [0, 1, 0, 2, 1, 0], [0, 1, 2], [0, 1, 0]),
                                 (2, [0, 1, 0], [1, 0], [1]), (1, [1, 0, 1], [0, 1], [0])):
            self.assertEqual(one(THREE, parts(members, w)), two_words(a, b), (members, w))

    def test_the_set_of_none_and_the_set_of_all(self):
        for group in (THREE, FREE_THREE, CUBE):
            for w in ([], [1], [2, 1, 0, 2, 1], [0, 1, 2] * 10 + [0, 1]):
                told = one(group, form(w))[2:]
                self.assertEqual(one(group, parts(0, w)), two_words(told, []))
                self.assertEqual(one(group, parts(7, w)), two_words([], told))

    def test_the_empty_word(self):
        self.assertEqual(ask_of(*THREE, [parts(members, []) for members in range(8)]), [two_words([], [])] * 8)
        self.assertEqual(ask(parts(0, []), parts(1, [])), [two_words([], [])] * 2)

    def test_one_mirror(self):
        self.assertEqual(ask(parts(0, [0]), parts(1, [0]), parts(1, [0, 0]), parts(2, [0])),
                         [two_words([0], []), two_words([], [0]), two_words([], []), REFUSED])

    def test_mirrors_without_turns(self):
        w = [0, 1, 2] * 8 + [0, 1, 0, 1, 0, 1, 0, 1]
        self.assertEqual(one(FREE_THREE, parts(3, w)), two_words(w[:24], w[24:]))
        self.assertEqual(one(FREE_THREE, parts(5, w)), two_words(w, []))
        self.assertEqual(one(FREE_THREE, parts(6, w)), two_words(w[:31], [1]))

    def test_sets_of_eight_mirrors(self):
        group = (8, line_of_threes(8))
        w = [7, 6, 5, 4, 3, 2, 1, 0]
        self.assertEqual(one(group, parts(15, w)), two_words([7, 6, 5, 4], [3, 2, 1, 0]))
        self.assertEqual(one(group, parts(255, w)), two_words([], w))
        self.assertEqual(one(group, parts(128, w)), two_words(w, []))
        self.assertEqual(one(group, parts(128, w[::-1])), two_words(w[:0:-1], [7]))


class WordsThatAreRefused(unittest.TestCase):
    def test_thirty_two_places_are_taken(self):
        w = [0, 1, 2, 1] * 8
        for group in (THREE, CUBE, branched(8)):
            for call, answer in zip(calls_with(w), ask_of(*group, calls_with(w))):
                self.assertEqual(answer[0], 0, call)
        told = ask_of(*FREE_THREE, calls_with(w))
        self.assertEqual(told[:6], [NO, YES, YES, NO, NO, TOO_LONG])
        self.assertEqual(told[6:], [two_words(w, []), two_words(w, [])])

    def test_more_than_thirty_two_places_are_refused(self):
        for many in (33, 34, 64, 200):
            for w in ([0] * many, by_turns(0, 1, many)):
                for group in (THREE, FREE_THREE):
                    self.assertEqual(ask_of(*group, calls_with(w)), [REFUSED] * 8)
            self.assertEqual(ask(*calls_with([0] * many)), [REFUSED] * 8)

    def test_numbers_of_no_mirror_are_refused(self):
        for n in range(1, 9):
            for wrong in (n, n + 1, 200, 255):
                for w in ([wrong], [0, wrong], [wrong, 0], [0] * 31 + [wrong]):
                    self.assertEqual(ask_of(n, [3] * len(pairs(n)), calls_with(w)), [REFUSED] * 8)
            for answer in ask_of(n, [3] * len(pairs(n)), calls_with([n - 1])):
                self.assertEqual(answer[0], 0)

    def test_sets_that_are_refused(self):
        for n in range(1, 9):
            group = (n, [3] * len(pairs(n)))
            for wrong in (2 ** n, 2 ** n + 1, 2 ** (n + 1) - 1, 2 ** 31, 2 ** 32 - 1):
                self.assertEqual(one(group, parts(wrong, [0])), REFUSED)
                self.assertEqual(one(group, parts(wrong, [])), REFUSED)
            self.assertEqual(one(group, parts(2 ** n - 1, [n - 1])), two_words([], [n - 1]))

    def test_a_refusal_is_looked_at_before_all_else(self):
        w = by_turns(0, 1, 33)
        self.assertEqual(ask_of(*FREE_THREE, [ways(w), ways(w[:32]), ways(w[:31] + (3,)), below([3], w), below(w, [0]),
                                              below([0], [3]), parts(8, w), parts(7, w), parts(8, [0])]),
                         [REFUSED, TOO_LONG] + [REFUSED] * 7)

    def test_refusals_change_nothing(self):
        looks = [form([2, 1, 2, 1, 0]), same([2, 1, 2], [1, 2, 1]), back([0, 1]), power(3, [0, 1]), order([0, 1, 2])]
        wanted = ask_of(*CUBE, looks)
        for call in calls_with([3]) + calls_with([0] * 33) + [parts(8, [0]), parts(2 ** 32 - 1, [0])]:
            self.assertEqual(ask(make(*CUBE), call, *looks)[1:], [REFUSED] + wanted, call)
        self.assertEqual(ask(make(*FREE_THREE), ways(by_turns(0, 1, 21)), ways([0, 1]))[1:], [TOO_LONG, YES])


if __name__ == "__main__":
    unittest.main()
