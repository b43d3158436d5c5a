"""Each of the calls size, longest, joined and count: ordinary sets, the edges that the document names, and what is
refused."""

import unittest
from math import comb, factorial

from tests.helper import (TURNS, all_sets, ask, ask_of, begins, beside, branched, by_turns, count, ends, form, forked,
                          group_row, joined, length, line_of_threes, longest, make, mirrors_with, number_of, one, order,
                          pairs, row_of, same, size, word)

REFUSED = [-1]
TOO_LONG = [-2]
THREE = (3, [3, 2, 3])
FREE_THREE = (3, [0, 0, 0])
FREE_EIGHT = (8, [0] * 28)
COMMUTING_EIGHT = (8, [2] * 28)
MIDDLE_FOUR = (4, [3, 2, 2, 4, 2, 3])

FINITE = [(row_of(n, 3), factorial(n + 1), n * (n + 1) // 2) for n in range(1, 9)]
FINITE += [(row_of(n, 4), 2 ** n * factorial(n), n * n) for n in range(2, 9)]
FINITE += [(forked(n), 2 ** (n - 1) * factorial(n), n * (n - 1)) for n in range(4, 9)]
FINITE += [(row_of(2, turn), 2 * turn, turn) for turn in TURNS[1:]]
FINITE += [(branched(6), 51840, 36), (branched(7), 2903040, 63), (branched(8), 696729600, 120),
           (row_of(3, 5), 120, 15), (row_of(4, 5), 14400, 60), (MIDDLE_FOUR, 1152, 24)]

# What is one mirror or one turn off a finite shape.
ENDLESS = [(2, [0]), (3, [3, 3, 3]), (3, [4, 2, 4]), (3, [6, 2, 3]), (3, [5, 2, 5]), (3, [5, 2, 4]), (3, [4, 4, 2]),
           (3, [0, 2, 2]), (3, [3, 2, 0]), (3, [6, 2, 6]), (4, [3, 2, 2, 5, 2, 3]), (4, [4, 2, 2, 3, 2, 4]),
           (4, [3, 3, 3, 3, 3, 3]), (4, [3, 3, 4, 2, 2, 2]), (4, [3, 3, 5, 2, 2, 2]), (4, [3, 2, 3, 3, 2, 3]),
           row_of(5, 5), row_of(8, 5), row_of(3, 6), row_of(8, 6), row_of(8, 0),
           mirrors_with(5, {(0, 1): 3, (1, 2): 4, (2, 3): 3, (3, 4): 3}),
           mirrors_with(5, {(0, 1): 3, (0, 2): 3, (0, 3): 3, (0, 4): 3}),
           mirrors_with(6, {(0, 2): 3, (1, 2): 3, (2, 3): 3, (3, 4): 3, (3, 5): 3}),
           mirrors_with(7, {(0, 1): 3, (1, 2): 3, (2, 3): 3, (3, 4): 3, (2, 5): 3, (5, 6): 3}),
           mirrors_with(8, {(0, 7): 3, **{(s, s + 1): 3 for s in range(7)}}),
           mirrors_with(8, {(3, 7): 3, **{(s, s + 1): 3 for s in range(6)}}),
           mirrors_with(8, {(0, 2): 3, (5, 7): 3, **{(s, s + 1): 3 for s in range(1, 6)}}),
           beside((2, [0]), row_of(6, 3)), beside(branched(6), (2, [0]))]


def all_of(group):
    return 2 ** group[0] - 1


def set_calls(members):
    return [size(members), longest(members), joined(members), count(members, 0), count(members, 4)]


class Size(unittest.TestCase):
    def test_finite_shapes(self):
        for group, wanted, _ in FINITE:
            self.assertEqual(one(group, size(all_of(group))), [0, wanted], group)

    def test_endless_shapes(self):
        for group in ENDLESS:
            self.assertEqual(one(group, size(all_of(group))), [0, 0], group)

    def test_sets_of_a_row(self):
        wanted = [1, 2, 2, 6, 2, 4, 6, 24]
        self.assertEqual(ask_of(*THREE, [size(members) for members in range(8)]), [[0, many] for many in wanted])

    def test_several_groups(self):
        self.assertEqual(one(COMMUTING_EIGHT, size(255)), [0, 256])
        self.assertEqual(one(beside(row_of(4, 5), row_of(4, 5)), size(255)), [0, 14400 ** 2])
        self.assertEqual(one(beside(row_of(4, 5), MIDDLE_FOUR), size(255)), [0, 14400 * 1152])
        self.assertEqual(one(beside(row_of(3, 5), forked(5)), size(255)), [0, 120 * 1920])
        self.assertEqual(one(beside(branched(6), (2, [6])), size(255)), [0, 51840 * 12])
        self.assertEqual(one(beside(branched(7), (1, [])), size(255)), [0, 2903040 * 2])

    def test_finite_sets_of_what_is_endless(self):
        for group in ENDLESS:
            self.assertEqual(ask_of(*group, [size(0)] + [size(2 ** s) for s in range(group[0])]),
                             [[0, 1]] + [[0, 2]] * group[0])
            for (s, t), turn in zip(pairs(group[0]), group[1]):
                self.assertEqual(one(group, size(number_of([s, t]))), [0, 2 * turn])

    def test_the_set_of_none(self):
        self.assertEqual(ask(size(0), size(1)), [[0, 1], [0, 2]])
        self.assertEqual(one(FREE_EIGHT, size(0)), [0, 1])


class Longest(unittest.TestCase):
    def test_ordinary_sets(self):
        told = ask_of(*THREE, [longest(members) for members in range(8)])
        self.assertEqual(told, [word(w) for w in ([], [0], [1], [0, 1, 0], [2], [0, 2], [1, 2, 1], [0, 1, 0, 2, 1, 0])])

    def test_two_mirrors(self):
        for turn in TURNS[1:]:
            self.assertEqual(one((2, [turn]), longest(3)), word(by_turns(0, 1, turn)))

    def test_finite_shapes(self):
        for group, _, wanted in FINITE:
            told = one(group, longest(all_of(group)))
            if wanted > 64:
                self.assertEqual(told, TOO_LONG, group)
                continue
            self.assertEqual(told[:2], [0, wanted], group)
            if wanted <= 32:
                everyone = word(range(group[0]))
                self.assertEqual(ask_of(*group, [form(told[2:]), begins(told[2:]), ends(told[2:])]),
                                 [told, everyone, everyone])

    def test_sixty_four_places_and_more(self):
        self.assertEqual(one(row_of(8, 4), longest(255))[:2], [0, 64])
        self.assertEqual(one(branched(7), longest(127))[:2], [0, 63])
        self.assertEqual(one(beside(branched(7), (1, [])), longest(255))[:2], [0, 64])
        self.assertEqual(one(beside(row_of(4, 5), (2, [4])), longest(63))[:2], [0, 64])
        self.assertEqual(one(beside(row_of(4, 5), (2, [5])), longest(63)), TOO_LONG)
        self.assertEqual(one(branched(8), longest(255)), TOO_LONG)
        self.assertEqual(one(branched(8), longest(127))[:2], [0, 63])
        self.assertEqual(one(beside(row_of(4, 5), row_of(4, 5)), longest(255)), TOO_LONG)

    def test_endless_sets(self):
        for group in ENDLESS:
            self.assertEqual(one(group, longest(all_of(group))), TOO_LONG, group)
            self.assertEqual(one(group, longest(1)), word([0]))

    def test_the_set_of_none(self):
        self.assertEqual(ask(longest(0), longest(1)), [word([]), word([0])])
        self.assertEqual(one(FREE_EIGHT, longest(0)), word([]))


class Joined(unittest.TestCase):
    def test_ordinary_sets(self):
        rows = [(0, [0, 0, 0]), (1, [1, 0, 0]), (1, [0, 1, 0]), (1, [1, 1, 0]), (1, [0, 0, 1]), (2, [1, 0, 2]),
                (1, [0, 1, 1]), (1, [1, 1, 1])]
        self.assertEqual(ask_of(*THREE, [joined(members) for members in range(8)]), [group_row(*row) for row in rows])

    def test_each_turn(self):
        for turn in TURNS:
            wanted = group_row(2, [1, 2]) if turn == 2 else group_row(1, [1, 1])
            self.assertEqual(one((2, [turn]), joined(3)), wanted)

    def test_the_order_of_the_groups(self):
        group = mirrors_with(8, {(0, 6): 3, (1, 4): 0, (2, 7): 4, (3, 5): 5, (5, 6): 6})
        self.assertEqual(one(group, joined(255)), group_row(3, [1, 2, 3, 1, 2, 1, 1, 3]))
        self.assertEqual(one(group, joined(191)), group_row(4, [1, 2, 3, 4, 2, 4, 0, 3]))
        self.assertEqual(one(group, joined(254)), group_row(3, [0, 1, 2, 3, 1, 3, 3, 2]))
        self.assertEqual(one(group, joined(128)), group_row(1, [0] * 7 + [1]))

    def test_only_mirrors_of_the_set_join(self):
        group = (8, line_of_threes(8))
        self.assertEqual(one(group, joined(255)), group_row(1, [1] * 8))
        self.assertEqual(one(group, joined(85)), group_row(4, [1, 0, 2, 0, 3, 0, 4, 0]))
        self.assertEqual(one(group, joined(219)), group_row(3, [1, 1, 0, 2, 2, 0, 3, 3]))

    def test_many_groups(self):
        self.assertEqual(one(COMMUTING_EIGHT, joined(255)), group_row(8, [1, 2, 3, 4, 5, 6, 7, 8]))
        self.assertEqual(one(FREE_EIGHT, joined(255)), group_row(1, [1] * 8))

    def test_the_set_of_none(self):
        self.assertEqual(ask(joined(0), joined(1)), [group_row(0, [0]), group_row(1, [1])])
        self.assertEqual(one(FREE_EIGHT, joined(0)), group_row(0, [0] * 8))


class Count(unittest.TestCase):
    def test_ordinary_sets(self):
        self.assertEqual(ask_of(*THREE, [count(7, k) for k in range(5)]), [[0, many] for many in (1, 3, 5, 6, 5)])
        self.assertEqual(ask_of(*THREE, [count(3, k) for k in range(5)]), [[0, many] for many in (1, 2, 2, 1, 0)])
        self.assertEqual(ask_of(*THREE, [count(5, k) for k in range(5)]), [[0, many] for many in (1, 2, 1, 0, 0)])

    def test_two_mirrors(self):
        for turn in TURNS:
            wanted = [1] + [2 if not turn or k < turn else int(k == turn) for k in range(1, 5)]
            self.assertEqual(ask_of(2, [turn], [count(3, k) for k in range(5)]), [[0, many] for many in wanted])

    def test_eight_mirrors(self):
        for k in range(5):
            self.assertEqual(one(COMMUTING_EIGHT, count(255, k)), [0, comb(8, k)])
            self.assertEqual(one(FREE_EIGHT, count(255, k)), [0, 8 * 7 ** (k - 1) if k else 1])
            self.assertEqual(one(FREE_EIGHT, count(240, k)), [0, 4 * 3 ** (k - 1) if k else 1])
        self.assertEqual(ask_of(*branched(8), [count(255, k) for k in range(5)]),
                         [[0, many] for many in (1, 8, 35, 112, 294)])

    def test_the_set_of_none(self):
        self.assertEqual(ask(*[count(0, k) for k in range(5)]), [[0, 1]] + [[0, 0]] * 4)
        self.assertEqual(ask(*[count(1, k) for k in range(5)]), [[0, 1], [0, 1]] + [[0, 0]] * 3)

    def test_lengths_that_are_refused(self):
        for group in (THREE, FREE_EIGHT, (1, [])):
            for members in (0, 1):
                self.assertEqual(ask_of(*group, [count(members, k) for k in (5, 6, 64, 255, 2 ** 31, 2 ** 32 - 1)]),
                                 [REFUSED] * 6)


class SetsThatAreRefused(unittest.TestCase):
    def test_sets_from_two_to_the_n_on(self):
        for n in range(1, 9):
            for turn in TURNS:
                for wrong in (2 ** n, 2 ** n + 1, 2 ** (n + 1) - 1, 256, 2 ** 31, 2 ** 32 - 1):
                    calls = set_calls(wrong) + [count(wrong, 5)]
                    self.assertEqual(ask_of(n, [turn] * len(pairs(n)), calls), [REFUSED] * 6)

    def test_sets_below_it_are_taken(self):
        for n in range(1, 9):
            for number, _ in all_sets(n):
                for answer in ask_of(n, [2] * len(pairs(n)), set_calls(number)):
                    self.assertEqual(answer[0], 0)

    def test_at_a_line_s_beginning(self):
        self.assertEqual(ask(*set_calls(1)), [[0, 2], word([0]), group_row(1, [1]), [0, 1], [0, 0]])
        self.assertEqual(ask(*set_calls(2)), [REFUSED] * 5)

    def test_the_next_make_takes_the_place_of_the_last(self):
        told = ask(make(2, [3]), *set_calls(3), make(1, []), *set_calls(3), make(2, [0]), *set_calls(3))
        self.assertEqual(told[1:6], [[0, 6], word([0, 1, 0]), group_row(1, [1, 1]), [0, 1], [0, 0]])
        self.assertEqual(told[7:12], [REFUSED] * 5)
        self.assertEqual(told[13:], [[0, 0], TOO_LONG, group_row(1, [1, 1]), [0, 1], [0, 2]])

    def test_refusals_change_nothing(self):
        looks = [size(7), longest(7), joined(5), count(7, 3), form([2, 1, 2]), same([0, 1, 0], [1, 0, 1]), order([0, 1]),
                 length([2, 0, 2])]
        wanted = ask_of(*THREE, looks)
        for call in set_calls(8) + set_calls(2 ** 32 - 1) + [count(7, 5), count(0, 2 ** 32 - 1)]:
            self.assertEqual(ask(make(*THREE), call, *looks)[1:], [REFUSED] + wanted, call)
        told = ask(make(*FREE_THREE), longest(7), longest(1), size(7), count(7, 2))
        self.assertEqual(told[1:], [TOO_LONG, word([0]), [0, 0], [0, 6]])


if __name__ == "__main__":
    unittest.main()
