"""Long words, held against the document's own way with whole roots, and against exchanges of places."""

import unittest
from fractions import Fraction
from random import Random

from tests.helper import (TURNS, Roots, ask_of, begins, below, beside, branched, ends, form, inversions, is_below, length,
                          lies_below, line_of_threes, mirror, order, pairs, parts, permutation_form, permuted, power,
                          row_of, signed, times, times_until_back, two_words, ways, ways_to_sort, word)


class TheRootsThemselves(unittest.TestCase):
    def test_signs_of_numbers(self):
        phi = Fraction(16180339887498948482, 10 ** 19)
        for a in range(-60, 61):
            for b in range(-40, 41):
                self.assertEqual(is_below(a, b), a + b * phi < 0, (a, b))

    def test_no_root_has_numbers_of_both_signs(self):
        """Not even a and b of its numbers a + b phi are; the program draws on that."""
        dice = Random(4)
        for n in range(2, 9):
            for choice in (TURNS, (5,), (5, 0), (5, 4, 6), (2, 2, 2, 5, 3)):
                roots = Roots(n, [dice.choice(choice) for _ in pairs(n)])
                for s in range(n):
                    root = [(1 if t == s else 0, 0) for t in range(n)]
                    for _ in range(64):
                        root = roots.seen(root, dice.randrange(n))
                        numbers = [part for number in root for part in number]
                        self.assertTrue(min(numbers) >= 0 or max(numbers) <= 0, root)


class HeldAgainstRoots(unittest.TestCase):
    def hold(self, dice, n, turns):
        roots = Roots(n, turns)
        v, w = ([dice.randrange(n) for _ in range(32)] for _ in range(2))
        told = ask_of(n, turns, [form(w), begins(w), ends(w), length(w), times(v, w)])
        told_form = roots.form(w)
        wanted = [word(told_form), word(roots.begins(w)), word(roots.ends(w)), [0, len(told_form)],
                  word(roots.form(v + w))]
        self.assertEqual(told, wanted, (turns, v, w))

    def test_each_turn_alone(self):
        dice = Random(5)
        for turn in TURNS:
            for n in (2, 3, 5):
                self.hold(dice, n, [turn] * len(pairs(n)))

    def test_mixed_turns(self):
        dice = Random(6)
        for n in range(1, 9):
            for _ in range(4):
                self.hold(dice, n, [dice.choice(TURNS) for _ in pairs(n)])

    def test_turns_with_many_twos(self):
        dice = Random(7)
        for n in range(3, 9):
            for _ in range(4):
                self.hold(dice, n, [dice.choice((2, 2, 2, 3, 4, 5)) for _ in pairs(n)])

    def test_powers(self):
        dice = Random(8)
        for n in (2, 4, 6):
            for k in (-4, -3, 2, 3, 4):
                turns = [dice.choice(TURNS) for _ in pairs(n)]
                w = [dice.randrange(n) for _ in range(14)]
                right = Roots(n, turns).form((w[::-1] if k < 0 else w) * abs(k))
                self.assertEqual(ask_of(n, turns, [power(k, w)]), [word(right) if len(right) <= 64 else [-2]])


class OrdersHeldAgainstRoots(unittest.TestCase):
    """No order is above 120, so twice as many are gone through."""

    def hold(self, dice, group, words):
        roots = Roots(*group)
        for w, answer in zip(words, ask_of(*group, [order(w) for w in words])):
            self.assertEqual(answer, [0, roots.order(w, 240)], (group, w))

    def test_finite_groups(self):
        dice = Random(10)
        for group in (branched(8), row_of(4, 5), row_of(8, 4), beside(row_of(4, 5), row_of(4, 4)), branched(6),
                      (4, [3, 2, 2, 4, 2, 3]), beside(beside((2, [5]), (2, [3])), row_of(4, 4))):
            for many in (4, 8, 20, 32):
                self.hold(dice, group, [[dice.randrange(group[0]) for _ in range(many)] for _ in range(3)])

    def test_other_groups(self):
        dice = Random(11)
        for n in (2, 3, 4, 5):
            for choice in (TURNS, (2, 3), (2, 2, 5, 3), (0, 4, 2), (6, 2)):
                group = (n, [dice.choice(choice) for _ in pairs(n)])
                self.hold(dice, group, [[dice.randrange(n) for _ in range(many)] for many in (2, 3, 4, 6, 9)])


class PartsHeldAgainstRoots(unittest.TestCase):
    def parts(self, roots, members, w):
        left, behind = list(w), []
        found = [s for s in roots.ends(left) if s in members]
        while found:
            left, behind = left + found[-1:], found[-1:] + behind
            found = [s for s in roots.ends(left) if s in members]
        return roots.form(left), roots.form(behind)

    def test_mixed_turns(self):
        dice = Random(12)
        for n in range(1, 9):
            for choice in (TURNS, (2, 2, 3), (2, 2, 2, 5, 4)):
                group = (n, [dice.choice(choice) for _ in pairs(n)])
                w = [dice.randrange(n) for _ in range(20)]
                members = [s for s in range(n) if dice.random() < 0.6]
                told = ask_of(*group, [parts(sum(2 ** s for s in members), w)])[0]
                self.assertEqual(told, two_words(*self.parts(Roots(*group), members, w)), (group, members, w))


class HeldAgainstExchangesOfPlaces(unittest.TestCase):
    """Mirrors in a row with turn 3 do what exchanges of neighbouring places do."""

    def test_below(self):
        dice = Random(13)
        for n in range(1, 9):
            for _ in range(60):
                w = [dice.randrange(n) for _ in range(dice.randrange(33))]
                v = [s if dice.random() < 0.9 else dice.randrange(n) for s in w if dice.random() < 0.7]
                wanted = lies_below(permuted(v, n + 1), permuted(w, n + 1))
                self.assertEqual(ask_of(n, line_of_threes(n), [below(v, w)]), [[0, 1 if wanted else 0]], (v, w))

    def test_below_with_a_turn_of_four(self):
        dice = Random(14)
        for n in range(2, 9):
            for _ in range(40):
                w = [dice.randrange(n) for _ in range(dice.randrange(33))]
                v = [s if dice.random() < 0.9 else dice.randrange(n) for s in w if dice.random() < 0.7]
                wanted = lies_below(signed(v, n), signed(w, n))
                self.assertEqual(ask_of(*row_of(n, 4), [below(v, w)]), [[0, 1 if wanted else 0]], (v, w))

    def test_orders(self):
        dice = Random(15)
        for n in range(2, 9):
            words = [[dice.randrange(n) for _ in range(dice.randrange(33))] for _ in range(30)]
            self.assertEqual(ask_of(n, line_of_threes(n), [order(w) for w in words]),
                             [[0, times_until_back(permuted(w, n + 1))] for w in words])
            self.assertEqual(ask_of(*row_of(n, 4), [order(w) for w in words]),
                             [[0, times_until_back(signed(w, n))] for w in words])

    def moved(self, row):
        return [place for place, number in enumerate(row) if place != number]

    def test_mirrors(self):
        dice = Random(16)
        for n in range(2, 9):
            words = [[dice.randrange(n) for _ in range(dice.randrange(33))] for _ in range(20)]
            words += [w[:15] + [s] + w[:15][::-1] for w in words for s in (0, n - 1)]
            words += [w[:10] + [0, n - 1, 0] + w[:10][::-1] for w in words[:20]]
            told = ask_of(n, line_of_threes(n), [mirror(w) for w in words])
            self.assertEqual(told, [[0, 1 if len(self.moved(permuted(w, n + 1))) == 2 else 0] for w in words])
            told = ask_of(*row_of(n, 4), [mirror(w) for w in words])
            for w, answer in zip(words, told):
                row = signed(w, n)
                moved = self.moved(row)
                # Two places opposite one another, or two couples of places that are not.
                couples = len(moved) == 4 and all(row[row[k]] == k and row[k] != 2 * n - 1 - k for k in moved)
                self.assertEqual(answer, [0, 1 if len(moved) == 2 else 2 if couples else 0], w)

    def test_ways(self):
        dice = Random(17)
        known = {}
        for n in range(2, 9):
            for _ in range(12):
                w = [dice.randrange(n) for _ in range(30)]
                row = permuted(w, n + 1)
                wanted = [0, ways_to_sort(row, known)] if inversions(row) <= 20 else [-2]
                self.assertEqual(ask_of(n, line_of_threes(n), [ways(w)]), [wanted], w)

    def test_forms_and_lengths(self):
        dice = Random(9)
        for n in range(1, 9):
            for _ in range(60):
                v, w = ([dice.randrange(n) for _ in range(dice.randrange(33))] for _ in range(2))
                told = ask_of(n, line_of_threes(n), [form(w), length(w), times(v, w), power(4, w)])
                wanted = [word(permutation_form(w, n + 1)), [0, inversions(permuted(w, n + 1))],
                          word(permutation_form(v + w, n + 1)), word(permutation_form(w * 4, n + 1))]
                self.assertEqual(told, wanted, (n, v, w))


if __name__ == "__main__":
    unittest.main()
