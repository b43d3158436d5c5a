"""The promises 2 and 5 to 7 for the calls below to count."""

import unittest
from itertools import combinations, permutations, product
from math import cos, pi
from random import Random

from tests.helper import (TURNS, Roots, Searched, all_sets, ask_of, begins, below, beside, branched, by_turns, count,
                          ends, exchanged, form, forked, left_out, length, longest, mirror, number_of, one, order,
                          pairs, parts, renumbered, row_of, same, size, times, turn_table, ways, word)

SHAPES = [row_of(8, 3), row_of(8, 4), forked(8), branched(8), row_of(4, 5), beside(row_of(4, 5), row_of(4, 4)),
          (3, [3, 3, 3]), (3, [0, 0, 0]), (4, [6, 2, 3, 5, 2, 0]), row_of(8, 5), row_of(8, 0)]


class Promise2(unittest.TestCase):
    """The answers hang on what words are the same as, not on the words."""

    def some_step(self, dice, w, n, table):
        kind = dice.randrange(4)
        if kind == 0 and len(w) <= 30:
            k, s = dice.randrange(len(w) + 1), dice.randrange(n)
            return w[:k] + (s, s) + w[k:]
        others = left_out(w) if kind == 1 else [other for _, other in exchanged(w, table)]
        return dice.choice(others) if others else w

    def answers_of(self, group, w, others):
        calls = [order(w), mirror(w), ways(w), below(w, w)]
        calls += [parts(number, w) for number in (0, 1, 2, 5, 2 ** group[0] - 1)]
        calls += [below(w, other) for other in others] + [below(other, w) for other in others]
        return ask_of(*group, calls)

    def test_words_that_are_the_same(self):
        dice = Random(21)
        for group in SHAPES:
            for many in (3, 7, 12, 16, 20, 24):
                for turn in TURNS[1:]:
                    n, table = group[0], turn_table(*group)
                    s, t = dice.choice(pairs(n))
                    stretch = by_turns(s, t, table[s, t]) if turn == table[s, t] else ()
                    v = tuple(dice.randrange(n) for _ in range(many // 2)) + stretch
                    v += tuple(dice.randrange(n) for _ in range(many // 2))
                    w = v
                    for _ in range(30):
                        w = self.some_step(dice, w, n, table)
                    others = [v[1:], w[:-1], (0, 1, 2) + v[3:], v + (0,), [dice.randrange(n) for _ in range(9)]]
                    self.assertEqual(one(group, same(v, w)), [0, 1])
                    self.assertEqual(self.answers_of(group, v, others), self.answers_of(group, w, others), (group, v, w))

    def test_mirrors_seen_in_others(self):
        dice = Random(22)
        for group in SHAPES:
            for _ in range(30):
                u = tuple(dice.randrange(group[0]) for _ in range(dice.randrange(16)))
                s = dice.randrange(group[0])
                w = u + (s,) + u[::-1]
                told = ask_of(*group, [mirror(w), mirror((s,)), order(w), length(w)])
                self.assertEqual(told[0], told[1])
                self.assertEqual(told[2], [0, 2])
                self.assertEqual(told[3][1] % 2, 1)

    def test_orders_of_words_seen_in_others(self):
        dice = Random(23)
        for group in SHAPES:
            for _ in range(20):
                u, v = ([dice.randrange(group[0]) for _ in range(dice.randrange(11))] for _ in range(2))
                told = ask_of(*group, [order(u + v), order(v + u), order(u[::-1] + v + u), order(v), order(v[::-1])])
                self.assertEqual(told[0], told[1])
                self.assertEqual(told[2], told[3])
                self.assertEqual(told[4], told[3])


class Promise5(unittest.TestCase):
    """Below is an order, and hangs on no choice of shortest words."""

    def hold_order(self, group, words):
        many = len(words)
        told = ask_of(*group, [below(v, w) for v in words for w in words])
        table = [[answer == [0, 1] for answer in told[i * many:(i + 1) * many]] for i in range(many)]
        self.assertTrue(all(answer in ([0, 0], [0, 1]) for answer in told))
        for i in range(many):
            self.assertTrue(table[i][i])
            for j in range(many):
                if table[i][j] and i != j:
                    self.assertFalse(table[j][i], (words[i], words[j]))
                    for k in range(many):
                        if table[j][k]:
                            self.assertTrue(table[i][k], (words[i], words[j], words[k]))
        return table

    def test_all_words_of_small_groups(self):
        for group in ((3, [3, 2, 3]), (3, [4, 2, 3]), (2, [6]), (3, [2, 5, 2]), row_of(4, 3)):
            forms = list(Searched(*group).shortest)
            table = self.hold_order(group, forms)
            last = max(range(len(forms)), key=lambda i: len(forms[i]))
            self.assertTrue(all(row[last] for row in table))
            self.assertTrue(all(table[forms.index(())]))

    def test_words_of_endless_groups(self):
        for group, most in (((3, [3, 3, 3]), 6), ((3, [0, 2, 5]), 6), ((4, [3, 2, 3, 3, 2, 3]), 5), ((3, [6, 4, 0]), 5)):
            self.hold_order(group, list(Searched(*group, most).shortest)[:130])

    def test_long_words(self):
        dice = Random(24)
        for group in SHAPES:
            begin = [dice.randrange(group[0]) for _ in range(32)]
            words = [[s for s in begin if dice.random() < share] for share in (0.2, 0.5, 0.8, 0.9) for _ in range(6)]
            forms = sorted({tuple(answer[2:]) for answer in ask_of(*group, [form(w) for w in words])})
            self.hold_order(group, forms)

    def test_a_word_with_places_left_out_lies_below(self):
        dice = Random(25)
        for group in SHAPES:
            for _ in range(20):
                w = one(group, form([dice.randrange(group[0]) for _ in range(32)]))[2:]
                calls = [below([s for s in w if dice.random() < share], w) for share in (0.3, 0.6, 0.9, 1)]
                calls += [below(w[:k] + w[k + 1:], w) for k in range(len(w))]
                self.assertEqual(ask_of(*group, calls), [[0, 1]] * len(calls))

    def test_a_longer_word_does_not_lie_below(self):
        dice = Random(26)
        for group in SHAPES:
            for _ in range(20):
                v, w = ([dice.randrange(group[0]) for _ in range(many)] for many in (28, 14))
                told = ask_of(*group, [length(v), length(w), same(v, w), below(v, w)])
                if told[0][1] >= told[1][1] and told[2] == [0, 0]:
                    self.assertEqual(told[3], [0, 0])

    def test_no_choice_of_shortest_words(self):
        for group in ((3, [3, 2, 3]), (3, [4, 2, 3]), (3, [3, 3, 3])):
            searched = Searched(*group, 6)
            for f, alike in searched.shortest.items():
                found = {frozenset(searched.below(w)) for w in alike}
                self.assertEqual(len(found), 1, f)


class Promise6(unittest.TestCase):
    """What is told of parts is one pair, their lengths together the word's."""

    def hold(self, group, number, w):
        members = [s for s in range(group[0]) if number // 2 ** s % 2]
        told, own = ask_of(*group, [parts(number, w), form(w)])
        a = told[2:2 + told[1]]
        b = told[3 + told[1]:]
        self.assertEqual(told, [0, len(a)] + a + [len(b)] + b)
        self.assertEqual(len(a) + len(b), own[1])
        self.assertTrue(set(b) <= set(members))
        again = ask_of(*group, [form(a), form(b), times(a, b), ends(a), begins(a[::-1]), parts(number, a),
                                parts(number, b)])
        self.assertEqual(again[:3], [word(a), word(b), own])
        self.assertFalse(set(again[3][2:]) & set(members))
        self.assertEqual(again[3], again[4])
        self.assertEqual(again[5:], [[0, len(a)] + a + [0], [0, 0, len(b)] + b])

    def test_long_words(self):
        dice = Random(27)
        for group in SHAPES:
            for many in (1, 5, 12, 32):
                for _ in range(6):
                    w = [dice.randrange(group[0]) for _ in range(many)]
                    for number in [dice.randrange(2 ** group[0]) for _ in range(4)] + [0, 2 ** group[0] - 1]:
                        self.hold(group, number, w)


class Promise7(unittest.TestCase):
    """Sizes by the mirrors' shape are what is counted."""

    def all_turns(self, n):
        """All turns of n mirrors, those that differ by the mirrors' numbers alone once."""
        couples = pairs(n)
        orders = [[couples.index(tuple(sorted((p[s], p[t])))) for s, t in couples] for p in permutations(range(n))]
        for turns in product(TURNS, repeat=len(couples)):
            if all(tuple(turns[k] for k in row) >= turns for row in orders):
                yield list(turns)

    def is_finite(self, n, turns):
        """Just if all mirrors can stand in one room: then the squares of lengths there are above 0."""
        table = turn_table(n, turns)
        rows = [[1.0 if s == t else -cos(pi / table[s, t]) if table[s, t] else -1.0 for t in range(n)] for s in range(n)]
        for s in range(n):
            if rows[s][s] < 1e-6:
                return False
            for t in range(s + 1, n):
                share = rows[t][s] / rows[s][s]
                rows[t] = [b - share * a for a, b in zip(rows[s], rows[t])]
        return True

    def test_every_set_of_at_most_four_mirrors(self):
        finite = 0
        for n in range(1, 5):
            for turns in self.all_turns(n):
                told = one((n, turns), size(2 ** n - 1))
                if not self.is_finite(n, turns):
                    self.assertEqual(told, [0, 0], turns)
                    continue
                finite += 1
                levels = Roots(n, turns).counted(range(n))
                self.assertEqual(told, [0, sum(levels)], turns)
                most = len(levels) - 1
                self.assertEqual(levels[-1], 1)
                self.assertEqual(one((n, turns), longest(2 ** n - 1))[:2], [0, most])
                self.assertEqual(ask_of(n, turns, [count(2 ** n - 1, k) for k in range(5)]),
                                 [[0, many] for many in (levels + [0] * 4)[:5]])
        # One mirror; the turns 2 to 6; three groups of one shape, and four turns beside one mirror, and three of one
        # mirror each; then five of one shape, three of three mirrors beside one, ten of two turns, four, and one.
        self.assertEqual(finite, 1 + 5 + (3 + 4 + 1) + (5 + 3 + 10 + 4 + 1))

    def test_larger_shapes_that_can_be_counted(self):
        for group in (row_of(5, 3), row_of(5, 4), forked(5), row_of(6, 3), forked(6), branched(6), row_of(6, 4),
                      beside(row_of(3, 5), (2, [6])), beside(row_of(4, 3), row_of(3, 4))):
            levels = Roots(*group).counted(range(group[0]))
            everyone = 2 ** group[0] - 1
            self.assertEqual(one(group, size(everyone)), [0, sum(levels)], group)
            self.assertEqual(one(group, longest(everyone))[:2], [0, len(levels) - 1])
            self.assertEqual(ask_of(*group, [count(everyone, k) for k in range(5)]), [[0, k] for k in levels[:5]])

    def test_larger_shapes_counted_in_steps(self):
        for n in range(1, 9):
            for group in [row_of(n, 3)] + [row_of(n, 4)] * (n > 1) + [forked(n)] * (n > 3) + [branched(n)] * (n > 4):
                wanted = Roots(*group).counted_in_steps(list(range(n)))
                self.assertEqual(one(group, size(2 ** n - 1)), [0, wanted], group)
        self.assertEqual(one(branched(8), size(255)), [0, 696729600])

    def test_all_sets_of_large_groups(self):
        for group in (branched(8), row_of(8, 4), beside(row_of(4, 5), (4, [3, 2, 2, 4, 2, 3])), forked(8)):
            roots = Roots(*group)
            told = ask_of(*group, [size(number) for number, _ in all_sets(8)])
            for (number, members), answer in zip(all_sets(8), told):
                self.assertEqual(answer, [0, roots.counted_in_steps(members)], (group, members))

    def test_no_numbers_of_the_mirrors_matter(self):
        dice = Random(28)
        for group in SHAPES + [branched(6), branched(7), row_of(6, 4), row_of(3, 5), (4, [3, 2, 2, 4, 2, 3])]:
            n = group[0]
            for _ in range(8):
                numbers = dice.sample(range(n), n)
                other = renumbered(group, numbers)
                sets = [members for many in (1, 2, 3, n) for members in combinations(range(n), min(many, n))]
                told = ask_of(*group, [size(number_of(members)) for members in sets])
                again = ask_of(*other, [size(number_of([numbers[s] for s in members])) for members in sets])
                self.assertEqual(told, again)
                told, again = one(group, longest(2 ** n - 1)), one(other, longest(2 ** n - 1))
                self.assertEqual(told[:2], again[:2])


if __name__ == "__main__":
    unittest.main()
