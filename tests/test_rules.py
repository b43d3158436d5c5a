"""Forms held against a search by the mirrors' own rules, and the promises 2 and 3."""

import unittest
from itertools import product
from random import Random

from tests.helper import (TURNS, ask_of, back, begins, by_turns, ends, exchanged, first_words, form, left_out, length,
                          pairs, power, same, times, turn_table, word, words_up_to)

LONGER_SEARCHES = ([5, 2, 3], [4, 2, 3], [6, 2, 3], [3, 3, 3], [0, 2, 4], [3, 4, 2], [2, 5, 3], [3, 0, 6])
FOURS = ([3, 2, 2, 3, 2, 3], [4, 2, 2, 3, 2, 3], [3, 2, 3, 3, 2, 3], [0, 3, 2, 2, 4, 3], [2, 2, 2, 2, 2, 2],
         [3, 3, 3, 2, 2, 2], [5, 2, 0, 3, 2, 4])


def shorter(first, one, other):
    return len(first[one]) < len(first[other])


class HeldAgainstASearch(unittest.TestCase):
    def hold(self, n, turns, longest):
        first = first_words(n, turns, longest)
        words = words_up_to(n, longest)
        told = ask_of(n, turns, [form(w) for w in words])
        for w, answer in zip(words, told):
            self.assertEqual(answer, word(first[w]), (turns, w))
        self.hold_what_hangs_on_it(n, turns, first, words_up_to(n, longest - 1))

    def hold_what_hangs_on_it(self, n, turns, first, words):
        calls = []
        wanted = []
        for w in words:
            calls += [length(w), back(w), begins(w), ends(w)]
            wanted.append([0, len(first[w])])
            wanted.append(word(first[w[::-1]]))
            wanted.append(word([s for s in range(n) if shorter(first, (s,) + w, w)]))
            wanted.append(word([s for s in range(n) if shorter(first, w + (s,), w)]))
        for call, answer, right in zip(calls, ask_of(n, turns, calls), wanted):
            self.assertEqual(answer, right, (turns, call))

    def test_one_mirror(self):
        self.hold(1, [], 9)

    def test_two_mirrors(self):
        for turn in TURNS:
            self.hold(2, [turn], 12)

    def test_three_mirrors_with_all_turns(self):
        for turns in product(TURNS, repeat=3):
            self.hold(3, list(turns), 5)

    def test_three_mirrors_and_longer_words(self):
        for turns in LONGER_SEARCHES:
            self.hold(3, turns, 8)

    def test_four_mirrors(self):
        for turns in FOURS:
            self.hold(4, turns, 6)

    def test_times_power_and_same(self):
        for turns in ([3, 2, 3], [5, 2, 3], [4, 0, 6]):
            first = first_words(3, turns, 6)
            words = words_up_to(3, 3)
            couples = [(v, w) for v in words for w in words]
            told = ask_of(3, turns, [times(v, w) for v, w in couples])
            self.assertEqual(told, [word(first[v + w]) for v, w in couples])
            told = ask_of(3, turns, [same(v, w) for v, w in couples])
            self.assertEqual(told, [[0, 1 if first[v] == first[w] else 0] for v, w in couples])
            told = ask_of(3, turns, [power(k, w) for w in words for k in (-2, -1, 0, 1, 2)])
            self.assertEqual(told, [word(first[w[::-1] * -k if k < 0 else w * k])
                                    for w in words for k in (-2, -1, 0, 1, 2)])


class Promise2(unittest.TestCase):
    """Words that come of one another by the rules have the same answers, for each turn."""

    def some_step(self, dice, w, n, table):
        kind = dice.randrange(4)
        if kind == 0 and len(w) <= 30:
            k, s = dice.randrange(len(w) + 1), dice.randrange(n)
            return w[:k] + (s, s) + w[k:]
        others = left_out(w) if kind == 1 else [other for _, other in exchanged(w, table)]
        return dice.choice(others) if others else w

    def word_with_a_stretch(self, dice, n, s, t, turn):
        front = tuple(dice.randrange(n) for _ in range(dice.randrange(9)))
        behind = tuple(dice.randrange(n) for _ in range(dice.randrange(9)))
        return front + by_turns(s, t, turn) + behind, front + by_turns(t, s, turn) + behind

    def answers_of(self, w, u, n, turns):
        return ask_of(n, turns, [form(w), length(w), begins(w), ends(w), back(w), times(w, u), times(u, w),
                                 same(u, w), same(w, u)] + [power(k, w) for k in range(-4, 5)])

    def test_each_turn(self):
        dice = Random(2)
        for turn in TURNS[1:]:
            for n in range(2, 9):
                for _ in range(8):
                    turns = [dice.choice(TURNS) for _ in pairs(n)]
                    s, t = sorted(dice.sample(range(n), 2))
                    turns[pairs(n).index((s, t))] = turn
                    v, w = self.word_with_a_stretch(dice, n, s, t, turn)
                    for _ in range(25):
                        w = self.some_step(dice, w, n, turn_table(n, turns))
                    u = [dice.randrange(n) for _ in range(10)]
                    self.assertEqual(self.answers_of(v, u, n, turns), self.answers_of(w, u, n, turns))
                    self.assertEqual(ask_of(n, turns, [same(v, w)]), [[0, 1]])

    def test_no_turn_exchanges_nothing(self):
        for many in range(1, 17):
            self.assertEqual(ask_of(2, [0], [same(by_turns(0, 1, many), by_turns(1, 0, many))]), [[0, 0]])

    def test_a_form_has_itself_as_form(self):
        dice = Random(3)
        for n in range(1, 9):
            for _ in range(30):
                turns = [dice.choice(TURNS) for _ in pairs(n)]
                w = [dice.randrange(n) for _ in range(32)]
                told = ask_of(n, turns, [form(w)])[0]
                self.assertEqual(ask_of(n, turns, [form(told[2:]), same(w, told[2:]), length(w)]),
                                 [told, [0, 1], [0, told[1]]])


class Promise3(unittest.TestCase):
    """A mirror more makes a word one longer or one shorter, and begins and ends tell which."""

    def hold(self, n, turns, words):
        for w in words:
            w = list(w)
            told = ask_of(n, turns, [length(w), begins(w), ends(w)] + [length([s] + w) for s in range(n)]
                          + [length(w + [s]) for s in range(n)])
            own = told[0][1]
            for s in range(n):
                self.assertEqual(told[3 + s], [0, own - 1 if s in told[1][2:] else own + 1], (turns, w, s))
                self.assertEqual(told[3 + n + s], [0, own - 1 if s in told[2][2:] else own + 1], (turns, w, s))

    def test_all_short_words(self):
        self.hold(1, [], words_up_to(1, 5))
        for turn in TURNS:
            self.hold(2, [turn], words_up_to(2, 8))
        for turns in LONGER_SEARCHES:
            self.hold(3, turns, words_up_to(3, 5))

    def test_long_words(self):
        dice = Random(4)
        for n in range(1, 9):
            for _ in range(40):
                turns = [dice.choice(TURNS) for _ in pairs(n)]
                self.hold(n, turns, [[dice.randrange(n) for _ in range(31)]])


if __name__ == "__main__":
    unittest.main()
