"""The calls below to count, held against a search by the mirrors' own rules."""

import unittest
from random import Random

from tests.helper import (TURNS, Searched, all_sets, ask_of, below, beside, count, exchanged, first_words, form, forked,
                          group_row, joined, left_out, longest, mirror, order, pairs, parts, row_of, size, two_words,
                          ways, word, words_up_to)

FINITE = [(1, []), (3, [3, 2, 3]), (3, [3, 3, 2]), (3, [2, 3, 4]), (3, [4, 2, 3]), (3, [3, 2, 5]), (3, [2, 2, 2]),
          (3, [2, 6, 2]), (4, [2] * 6), row_of(4, 3), beside((2, [5]), (2, [4])), beside((1, []), row_of(3, 4)),
          (4, [2, 3, 2, 2, 3, 3])] + [(2, [turn]) for turn in TURNS[1:]]
FINITE_AND_LARGER = [forked(4), beside((2, [6]), (2, [5]))]
ENDLESS = [((2, [0]), 12), ((3, [3, 3, 3]), 8), ((3, [0, 0, 0]), 6), ((3, [4, 2, 4]), 9), ((3, [6, 2, 3]), 9),
           ((3, [5, 5, 3]), 7), ((3, [0, 2, 3]), 8), ((3, [5, 0, 2]), 8), ((3, [6, 4, 2]), 8), ((3, [5, 2, 5]), 9),
           ((4, [3, 2, 3, 3, 2, 3]), 7), ((4, [0, 2, 2, 3, 2, 5]), 7), ((4, [4, 2, 2, 3, 3, 2]), 6),
           ((4, [2, 5, 0, 6, 2, 3]), 6)]
EXTRA_PAIRS = 2


class Case(unittest.TestCase):
    def hold(self, searched, calls, wanted):
        for call, answer, right in zip(calls, ask_of(searched.n, searched.turns, calls), wanted, strict=True):
            self.assertEqual(answer, right, (searched.turns, call))


class TheSearchItself(Case):
    """It puts no mirrors in; held against one that does."""

    def test_short_words(self):
        for n, turns in [(2, [turn]) for turn in TURNS] + [(3, [3, 2, 4]), (3, [0, 5, 2]), (3, [6, 3, 3]), (3, [2, 2, 2])]:
            searched = Searched(n, turns, 8)
            for w, first in first_words(n, turns, 7).items():
                self.assertEqual(searched.form(w), first, (turns, w))


class FiniteGroups(Case):
    """All words that are not the same, each asked as a word that is not shortest, too."""

    def other_words(self, dice, searched, forms):
        """For each form some word that is the same: a shortest one, with some mirrors put in."""
        found = []
        for f in forms:
            w = dice.choice(searched.shortest[f])
            for _ in range(EXTRA_PAIRS):
                k, s = dice.randrange(len(w) + 1), dice.randrange(searched.n)
                w = w[:k] + (s, s) + w[k:]
            found.append(w)
        return found

    def hold_words(self, searched, forms, words):
        seen = searched.mirrors_seen(None)
        self.hold(searched, [form(w) for w in words], [word(f) for f in forms])
        self.hold(searched, [order(w) for w in words], [[0, searched.order(f)] for f in forms])
        self.hold(searched, [mirror(w) for w in words], [[0, seen[f] + 1 if f in seen else 0] for f in forms])
        self.hold(searched, [ways(w) for w in words], [[0, len(searched.shortest[f])] for f in forms])

    def hold_parts(self, searched, forms, words):
        for number, members in all_sets(searched.n):
            found = searched.pairs_of_parts(members, None)
            self.assertEqual([len(found[f]) for f in forms], [1] * len(forms))
            self.hold(searched, [parts(number, w) for w in words], [two_words(*found[f][0]) for f in forms])

    def hold_below(self, searched, forms, words):
        lower = {f: searched.below(f) for f in forms}
        couples = [(i, j) for i in range(len(forms)) for j in range(len(forms))]
        self.hold(searched, [below(words[i], words[j]) for i, j in couples],
                  [[0, 1 if forms[i] in lower[forms[j]] else 0] for i, j in couples])

    def hold_sets(self, searched):
        for number, members in all_sets(searched.n):
            made = searched.made_by(members)
            most = max(len(f) for f in made)
            self.hold(searched, [size(number), longest(number)],
                      [[0, len(made)], word([f for f in made if len(f) == most][0])])
            self.assertEqual(len([f for f in made if len(f) == most]), 1)
            self.hold(searched, [count(number, k) for k in range(5)],
                      [[0, len([f for f in made if len(f) == k])] for k in range(5)])

    def test_words_and_sets(self):
        dice = Random(11)
        for group in FINITE + FINITE_AND_LARGER:
            searched = Searched(*group)
            forms = list(searched.shortest)
            self.hold_words(searched, forms, forms)
            self.hold_words(searched, forms, self.other_words(dice, searched, forms))
            self.hold_parts(searched, forms, self.other_words(dice, searched, forms))
            self.hold_sets(searched)

    def test_below(self):
        dice = Random(12)
        for group in FINITE:
            searched = Searched(*group)
            forms = list(searched.shortest)
            self.hold_below(searched, forms, self.other_words(dice, searched, forms))
        for group in FINITE_AND_LARGER:
            searched = Searched(*group)
            forms = dice.sample(list(searched.shortest), 70)
            self.hold_below(searched, forms, forms)


class EndlessGroups(Case):
    """All words up to some length."""

    def test_below(self):
        for group, most in ENDLESS:
            searched = Searched(*group, most)
            forms = [f for f in searched.shortest if len(f) <= min(5, most)][:90]
            forms += [f for f in searched.shortest if len(f) == most][-30:]
            lower = {f: searched.below(f) for f in forms}
            couples = [(v, w) for v in forms for w in forms]
            self.hold(searched, [below(v, w) for v, w in couples], [[0, 1 if v in lower[w] else 0] for v, w in couples])

    def test_ways(self):
        for group, most in ENDLESS:
            searched = Searched(*group, most)
            forms = list(searched.shortest)
            self.hold(searched, [ways(f) for f in forms], [[0, len(searched.shortest[f])] for f in forms])

    def test_parts(self):
        for group, most in ENDLESS:
            searched = Searched(*group, most)
            for number, members in all_sets(searched.n):
                found = searched.pairs_of_parts(members, most)
                forms = list(found)
                self.assertEqual(len(forms), len(searched.shortest))
                self.assertEqual({len(couples) for couples in found.values()}, {1})
                self.hold(searched, [parts(number, f) for f in forms], [two_words(*found[f][0]) for f in forms])

    def least_by_odd_turns(self, searched):
        """A longer u than those gone through may lead to a lesser mirror, but only by an odd turn."""
        least = list(range(searched.n))
        for _ in least:
            for (s, t), turn in searched.table.items():
                if turn % 2:
                    least[s] = min(least[s], least[t])
        return least

    def test_mirror(self):
        for group, most in ENDLESS:
            searched = Searched(*group, most)
            least = self.least_by_odd_turns(searched)
            seen = searched.mirrors_seen((most - 1) // 2)
            forms = list(searched.shortest)
            self.assertGreater(len(seen), 8)
            self.hold(searched, [mirror(f) for f in forms],
                      [[0, least[seen[f]] + 1 if f in seen else 0] for f in forms])

    def test_order(self):
        """As far as the words that are known reach."""
        for group, most in ENDLESS:
            searched = Searched(*group, most)
            forms = [f for f in searched.shortest if len(f) <= most // 2]
            for f, answer in zip(forms, ask_of(*group, [order(f) for f in forms])):
                reached = [k for k in range(1, 60) if len(f) * k <= most and searched.form(f * k) == ()]
                if reached:
                    self.assertEqual(answer, [0, reached[0]], f)
                elif answer[1]:
                    self.assertGreater(answer[1] * len(f), most)

    def test_count(self):
        for group, most in ENDLESS:
            searched = Searched(*group, most)
            for number, members in all_sets(searched.n):
                lengths = [len(f) for f in searched.made_by(members)]
                self.hold(searched, [count(number, k) for k in range(5)], [[0, lengths.count(k)] for k in range(5)])

    def test_count_of_eight_mirrors(self):
        dice = Random(13)
        for choice in (TURNS, (2, 3), (2, 2, 2, 4, 5, 0), (2, 3, 3)):
            searched = Searched(8, [dice.choice(choice) for _ in pairs(8)], 4)
            for number, members in dice.sample(all_sets(8), 40) + [(255, range(8))]:
                lengths = [len(f) for f in searched.made_by(members)]
                self.hold(searched, [count(number, k) for k in range(5)], [[0, lengths.count(k)] for k in range(5)])


class JoinedByTheTurns(unittest.TestCase):
    def groups(self, table, members):
        """Each mirror's group is the least mirror it is joined to; joined again and again, until nothing changes."""
        least = {s: s for s in members}
        for _ in members:
            for s in members:
                for t in members:
                    if s != t and table[s, t] != 2:
                        least[s] = min(least[s], least[t])
        return least

    def test_all_sets(self):
        dice = Random(14)
        for n in range(1, 9):
            for choice in (TURNS, (2, 3), (2, 2, 2, 2, 0, 6), (2, 2, 2, 2, 2, 4, 5)):
                turns = [dice.choice(choice) for _ in pairs(n)]
                table = Searched(n, turns, 0).table
                told = ask_of(n, turns, [joined(number) for number, _ in all_sets(n)])
                for (number, members), answer in zip(all_sets(n), told):
                    least = self.groups(table, members)
                    firsts = sorted(set(least.values()))
                    numbers = [firsts.index(least[s]) + 1 if s in least else 0 for s in range(n)]
                    self.assertEqual(answer, group_row(len(firsts), numbers), (turns, number))


class Promise4(Case):
    """Two shortest words that are the same come of one another by exchanges alone."""

    def test_all_shortest_words(self):
        for group, longest_word in [(group, 7) for group in FINITE if group[0] <= 3] + [((3, [3, 3, 3]), 7),
                                                                                        ((3, [0, 2, 4]), 7)]:
            n, turns = group
            searched = Searched(n, turns, longest_word)
            by_form = {}
            for w in words_up_to(n, longest_word):
                by_form.setdefault(searched.form(w), []).append(w)
            for f, alike in by_form.items():
                shortest = [w for w in alike if len(w) == len(f)]
                self.assertEqual(sorted(searched.by_exchanges(f)), sorted(shortest))
            told = ask_of(n, turns, [ways(f) for f in by_form])
            self.assertEqual(told, [[0, len([w for w in alike if len(w) == len(f)])] for f, alike in by_form.items()])

    def test_each_exchange_keeps_the_ways(self):
        dice = Random(15)
        for n in range(2, 9):
            turns = [dice.choice((2, 2, 3, 3, 4, 5)) for _ in pairs(n)]
            w = ask_of(n, turns, [form([dice.randrange(n) for _ in range(16)])])[0][2:]
            searched = Searched(n, turns, 0)
            alike = searched.by_exchanges(tuple(w))
            self.assertFalse(any(left_out(other) for other in alike))
            self.assertEqual(min(alike), tuple(w))
            told = ask_of(n, turns, [ways(other) for other in alike[:40]])
            self.assertEqual(told, [[0, len(alike)]] * len(told))
            self.assertTrue(all(exchanged(other, searched.table) for other in alike) or len(alike) == 1)


if __name__ == "__main__":
    unittest.main()
