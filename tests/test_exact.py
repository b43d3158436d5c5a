"""Long words, held against the document's own way with whole roots, and against exchanges of places."""

import unittest
from random import Random

from tests.helper import (TURNS, Roots, ask_of, begins, ends, form, inversions, length, line_of_threes, pairs,
                          permutation_form, permuted, power, times, word)


class HeldAgainstRoots(unittest.TestCase):
    def hold(self, dice, n, turns):
        roots = Roots(n, turns)
        v, w = ([dice.randrange(n) for _ in range(32)] for _ in range(2))
        told = ask_of(n, turns, [form(w), begins(w), ends(w), length(w), times(v, w)])
        told_form = roots.form(w)
        wanted = [word(told_form), word(roots.begins(w)), word(roots.ends(w)), [0, len(told_form)],
                  word(roots.form(v + w))]
        self.assertEqual(told, wanted, (turns, v, w))

    def test_each_turn_alone(self):
        dice = Random(5)
        for turn in TURNS:
            for n in (2, 3, 5):
                self.hold(dice, n, [turn] * len(pairs(n)))

    def test_mixed_turns(self):
        dice = Random(6)
        for n in range(1, 9):
            for _ in range(4):
                self.hold(dice, n, [dice.choice(TURNS) for _ in pairs(n)])

    def test_turns_with_many_twos(self):
        dice = Random(7)
        for n in range(3, 9):
            for _ in range(4):
                self.hold(dice, n, [dice.choice((2, 2, 2, 3, 4, 5)) for _ in pairs(n)])

    def test_powers(self):
        dice = Random(8)
        for n in (2, 4, 6):
            for k in (-4, -3, 2, 3, 4):
                turns = [dice.choice(TURNS) for _ in pairs(n)]
                w = [dice.randrange(n) for _ in range(14)]
                right = Roots(n, turns).form((w[::-1] if k < 0 else w) * abs(k))
                self.assertEqual(ask_of(n, turns, [power(k, w)]), [word(right) if len(right) <= 64 else [-2]])


class HeldAgainstExchangesOfPlaces(unittest.TestCase):
    """Mirrors in a row with turn 3 do what exchanges of neighbouring places do."""

    def test_forms_and_lengths(self):
        dice = Random(9)
        for n in range(1, 9):
            for _ in range(60):
                v, w = ([dice.randrange(n) for _ in range(dice.randrange(33))] for _ in range(2))
                told = ask_of(n, line_of_threes(n), [form(w), length(w), times(v, w), power(4, w)])
                wanted = [word(permutation_form(w, n + 1)), [0, inversions(permuted(w, n + 1))],
                          word(permutation_form(v + w, n + 1)), word(permutation_form(w * 4, n + 1))]
                self.assertEqual(told, wanted, (n, v, w))


if __name__ == "__main__":
    unittest.main()
