"""Each of the calls make to ends: ordinary words, the edges that the document names, and what is refused."""

import unittest

from tests.helper import (TURNS, ask, ask_of, back, begins, branched, by_turns, ends, form, length, line_of_threes,
                          make, one, pairs, power, same, times, word)

REFUSED = [-1]
TOO_LONG = [-2]
THREE = (3, [3, 2, 3])
FREE_THREE = (3, [0, 0, 0])
BRANCHED_EIGHT = branched(8)


def one_word_calls(w):
    return [form(w), back(w), power(1, w), power(0, w), length(w), begins(w), ends(w)]


def two_word_calls(w):
    return [times(w, []), times([], w), same(w, []), same([], w)]


class OrdinaryWords(unittest.TestCase):
    def test_form(self):
        self.assertEqual(one(THREE, form([2, 1, 2, 1, 0])), word([1, 0, 2]))
        self.assertEqual(one(THREE, form([1, 0, 1])), word([0, 1, 0]))
        self.assertEqual(one(THREE, form([2, 0])), word([0, 2]))
        self.assertEqual(one(THREE, form([0, 1, 1, 0, 2])), word([2]))

    def test_times(self):
        self.assertEqual(one(THREE, times([2], [0])), word([0, 2]))
        self.assertEqual(one(THREE, times([0, 1, 2], [2, 1])), word([0]))
        self.assertEqual(one(THREE, times([1, 2], [1, 2])), word([2, 1]))
        self.assertEqual(one(THREE, times([0, 1], [2])), word([0, 1, 2]))
        self.assertEqual(one(THREE, times([2], [0, 1])), word([0, 2, 1]))

    def test_back(self):
        self.assertEqual(one(THREE, back([0, 1, 2])), word([2, 1, 0]))
        self.assertEqual(one(THREE, back([1, 0, 2])), word([0, 2, 1]))
        self.assertEqual(one(THREE, back([0, 0, 1])), word([1]))

    def test_power(self):
        self.assertEqual(one(THREE, power(2, [0, 1])), word([1, 0]))
        self.assertEqual(one(THREE, power(3, [0, 1])), word([]))
        self.assertEqual(one(THREE, power(4, [0, 1, 2])), word([]))
        self.assertEqual(one(THREE, power(3, [0, 1, 2])), word([2, 1, 0]))
        self.assertEqual(one(THREE, power(2, [0, 1, 2])), word([1, 0, 2, 1]))
        self.assertEqual(one(THREE, power(-1, [0, 1, 2])), word([2, 1, 0]))
        self.assertEqual(one(THREE, power(-2, [0, 1])), word([0, 1]))

    def test_length(self):
        self.assertEqual(one(THREE, length([2, 1, 2, 1, 0])), [0, 3])
        self.assertEqual(one(THREE, length([0, 1, 0, 2, 1, 0])), [0, 6])
        self.assertEqual(one(THREE, length([1, 1])), [0, 0])

    def test_same(self):
        self.assertEqual(one(THREE, same([0, 1, 0], [1, 0, 1])), [0, 1])
        self.assertEqual(one(THREE, same([0, 1], [1, 0])), [0, 0])
        self.assertEqual(one(THREE, same([0, 2], [2, 0])), [0, 1])
        self.assertEqual(one(THREE, same([0], [0, 1, 1])), [0, 1])
        self.assertEqual(one(THREE, same([0], [0, 1])), [0, 0])

    def test_begins_and_ends(self):
        self.assertEqual(one(THREE, begins([2, 0, 1])), word([0, 2]))
        self.assertEqual(one(THREE, ends([2, 0, 1])), word([1]))
        self.assertEqual(one(THREE, begins([1, 2, 0])), word([1]))
        self.assertEqual(one(THREE, ends([1, 2, 0])), word([0, 2]))
        self.assertEqual(one(THREE, begins([0, 1, 0])), word([0, 1]))
        self.assertEqual(one(THREE, ends([0, 1, 0, 2, 1, 0])), word([0, 1, 2]))


class EachTurn(unittest.TestCase):
    def test_stretches_of_two_mirrors(self):
        for turn in TURNS[1:]:
            calls = [form(by_turns(1, 0, turn)), form(by_turns(1, 0, turn - 1)), form(by_turns(1, 0, turn + 1)),
                     power(1, by_turns(0, 1, 2 * turn)), begins(by_turns(1, 0, turn)), ends(by_turns(1, 0, turn)),
                     begins(by_turns(1, 0, turn - 1)), length(by_turns(1, 0, turn + 1)),
                     same(by_turns(0, 1, turn), by_turns(1, 0, turn)),
                     same(by_turns(0, 1, turn - 1), by_turns(1, 0, turn - 1))]
            wanted = [word(by_turns(0, 1, turn)), word(by_turns(1, 0, turn - 1)), word(by_turns(0, 1, turn - 1)),
                      word([]), word([0, 1]), word([0, 1]), word([1]), [0, turn - 1], [0, 1], [0, 0]]
            self.assertEqual(ask_of(2, [turn], calls), wanted, turn)

    def test_no_turn(self):
        for many in range(1, 33):
            w = by_turns(1, 0, many)
            calls = [form(w), length(w), begins(w), ends(w), same(w, by_turns(0, 1, many))]
            wanted = [word(w), [0, many], word([1]), word([w[-1]]), [0, 0]]
            self.assertEqual(ask_of(2, [0], calls), wanted)

    def test_longest_words_of_finite_groups(self):
        groups = [([5, 2, 3], 5), ([4, 2, 3], 3), ([3, 2, 4], 3), ([2, 2, 2], 1)]
        for turns, rounds in groups:
            w = [0, 1, 2] * rounds
            got = ask_of(3, turns, [length(w), begins(w), ends(w), power(2, w)])
            self.assertEqual(got, [[0, 3 * rounds], word([0, 1, 2]), word([0, 1, 2]), word([])], turns)

    def test_sixty_places_with_turn_five(self):
        turns = [5, 2, 2, 3, 2, 3]
        once = [0, 1, 2, 3]
        got = ask_of(4, turns, [times(once * 8, once * 7), times(once * 8, once * 8), power(2, once * 8)])
        self.assertEqual(got[0][:2], [0, 60])
        self.assertEqual(got[1][:2], [0, 56])
        self.assertEqual(got[2], got[1])


class HowManyMirrors(unittest.TestCase):
    def test_one_mirror_at_a_line_s_beginning(self):
        told = ask(form([0]), form([0, 0]), begins([0]), ends([0]), length([0, 0, 0]), form([1]))
        self.assertEqual(told, [word([0]), word([]), word([0]), word([0]), [0, 1], REFUSED])

    def test_one_mirror_made(self):
        told = ask(make(3, [3, 3, 3]), make(1, []), form([0, 0, 0]), power(3, [0]), form([1]))
        self.assertEqual(told, [[0, 0], [0, 0], word([0]), word([0]), REFUSED])

    def test_eight_mirrors(self):
        group = (8, line_of_threes(8))
        self.assertEqual(one(group, form([7, 0, 6, 7, 6])), word([0, 6, 7]))
        self.assertEqual(one(group, form([7, 6, 5, 4, 3, 2, 1, 0])), word([7, 6, 5, 4, 3, 2, 1, 0]))
        self.assertEqual(one(group, begins([7, 5, 3, 1])), word([1, 3, 5, 7]))
        self.assertEqual(one(group, ends([7, 5, 3, 1, 0])), word([0, 3, 5, 7]))

    def test_empty_words(self):
        calls = one_word_calls([]) + two_word_calls([]) + [power(-4, []), power(4, [])]
        wanted = [word([])] * 4 + [[0, 0]] + [word([])] * 4 + [[0, 1]] * 2 + [word([])] * 2
        self.assertEqual(ask_of(*THREE, calls), wanted)
        self.assertEqual(ask(*calls), wanted)


class WordsThatAreRefused(unittest.TestCase):
    def test_thirty_two_places_are_taken(self):
        for group in (THREE, FREE_THREE, BRANCHED_EIGHT):
            w = [0, 1, 2, 1] * 8
            for answer in ask_of(*group, one_word_calls(w) + two_word_calls(w)):
                self.assertEqual(answer[0], 0)
        self.assertEqual(one(FREE_THREE, form([0, 1, 2, 1] * 8)), word([0, 1, 2, 1] * 8))

    def test_more_than_thirty_two_places_are_refused(self):
        for many in (33, 34, 64, 200):
            w = [0] * many
            for group in (THREE, FREE_THREE, (1, [])):
                for answer in ask_of(*group, one_word_calls(w) + two_word_calls(w)):
                    self.assertEqual(answer, REFUSED)

    def test_numbers_of_no_mirror_are_refused(self):
        for n in range(1, 9):
            for wrong in (n, n + 1, 200, 255):
                for w in ([wrong], [0, wrong], [wrong, 0], [0] * 31 + [wrong]):
                    calls = one_word_calls(w) + two_word_calls(w)
                    self.assertEqual(ask_of(n, [3] * len(pairs(n)), calls), [REFUSED] * len(calls))
            calls = one_word_calls([n - 1])
            for answer in ask_of(n, [3] * len(pairs(n)), calls):
                self.assertEqual(answer[0], 0)

    def test_a_refusal_is_looked_at_before_all_else(self):
        w = [0, 1] * 16
        calls = [power(4, w), power(5, w), power(4, w + [0]), power(4, w[:31] + [3]), power(0, [3]), power(5, [3])]
        self.assertEqual(ask_of(*FREE_THREE, calls), [TOO_LONG] + [REFUSED] * 5)


class Powers(unittest.TestCase):
    def test_exponents(self):
        w = [0, 1, 2]
        b = [2, 1, 0]
        calls = [power(k, w) for k in (-4, -3, -2, -1, 0, 1, 2, 3, 4)]
        wanted = [word(b * 4), word(b * 3), word(b * 2), word(b), word([]),
                  word(w), word(w * 2), word(w * 3), word(w * 4)]
        self.assertEqual(ask_of(*FREE_THREE, calls), wanted)

    def test_exponents_that_are_refused(self):
        for k in (-5, 5, -6, 6, 100, -100, 2147483647, -2147483648):
            self.assertEqual(ask_of(*THREE, [power(k, []), power(k, [0])]), [REFUSED, REFUSED])

    def test_sixty_four_places_are_told(self):
        w = [0, 1] * 16
        self.assertEqual(one(FREE_THREE, power(2, w)), word(w * 2))
        self.assertEqual(one(FREE_THREE, power(-2, w)), word([1, 0] * 32))
        self.assertEqual(one(FREE_THREE, power(4, w[:16])), word(w * 2))
        middle = [0, 1] * 9 + [0, 2]
        self.assertEqual(one(FREE_THREE, power(3, [2, 1] + middle + [1, 2])), word([2, 1] + middle * 3 + [1, 2]))
        self.assertEqual(one(BRANCHED_EIGHT, power(2, list(range(8)) * 4))[:2], [0, 64])

    def test_more_places_are_too_long(self):
        middle = [0, 1] * 10 + [2]
        w = [1] + middle + [1]
        self.assertEqual(one(FREE_THREE, length(w)), [0, 23])
        for k in (3, -3, 4, -4):
            self.assertEqual(one(FREE_THREE, power(k, w)), TOO_LONG)
        self.assertEqual(one(FREE_THREE, power(2, w)), word([1] + middle * 2 + [1]))
        for k in (3, -3, 4, -4):
            self.assertEqual(one(BRANCHED_EIGHT, power(k, list(range(8)) * 4)), TOO_LONG)

    def test_many_places_with_a_short_form_are_told(self):
        self.assertEqual(one((2, [6]), power(4, [0, 1] * 16)), word([1, 0] * 2))
        self.assertEqual(one(FREE_THREE, power(4, [0, 1] * 8 + [1, 0] * 8)), word([]))


class TimesOfSixtyFourPlaces(unittest.TestCase):
    def test_is_told(self):
        v, w = [0, 1] * 16, [2, 1] * 16
        self.assertEqual(one(FREE_THREE, times(v, w)), word(v + w))
        self.assertEqual(one(BRANCHED_EIGHT, times(list(range(8)) * 4, list(range(8)) * 4))[:2], [0, 64])


class Make(unittest.TestCase):
    def test_turns_stand_in_order(self):
        turns = [3, 4, 5, 6, 2, 0]
        for (s, t), turn in zip(pairs(4), turns):
            calls = [same(by_turns(s, t, many), by_turns(t, s, many)) for many in range(1, 33)]
            wanted = [[0, 1 if turn and many % turn == 0 else 0] for many in range(1, 33)]
            self.assertEqual(ask_of(4, turns, calls), wanted, (s, t))

    def test_every_number_of_mirrors(self):
        for n in range(1, 9):
            for turn in TURNS:
                self.assertEqual(ask(make(n, [turn] * len(pairs(n)))), [[0, 0]])

    def test_the_next_make_takes_the_place_of_the_last(self):
        told = ask(make(2, [3]), form([1, 0, 1]), make(2, [4]), form([1, 0, 1]), make(3, [2, 2, 2]), form([2, 1, 0]))
        self.assertEqual(told, [[0, 0], word([0, 1, 0]), [0, 0], word([1, 0, 1]), [0, 0], word([0, 1, 2])])

    def wrong_makes(self):
        found = [make(n, [3] * many) for n, many in ((0, 0), (0, 1), (9, 36), (9, 28), (10, 45), (255, 200))]
        found += [make(4294967295, []), make(4294967295, [2] * 200), make(20, [2] * 190)]
        found += [make(n, [3] * (len(pairs(n)) + more)) for n in range(2, 9) for more in (-1, 1)]
        found += [make(1, [2]), make(8, []), make(8, [3] * 200), make(3, [3] * 8)]
        for wrong in (1, 7, 8, 254, 255):
            found += [make(2, [wrong]), make(3, [wrong, 3, 3]), make(3, [3, 3, wrong]), make(8, [2] * 27 + [wrong])]
        return found

    def test_wrong_makes_are_refused(self):
        for call in self.wrong_makes():
            self.assertEqual(ask(call), [REFUSED], call)

    def test_a_refused_make_changes_nothing(self):
        looks = [form([2, 1, 2, 1, 0]), form([2, 0, 2]), form([3]), begins([1, 2, 1, 2]), length([2, 2, 0, 1, 0])]
        for turns in ([3, 2, 3], [5, 4, 6], [0, 3, 4]):
            before = ask_of(3, turns, looks)
            for call in self.wrong_makes():
                self.assertEqual(ask(make(3, turns), call, *looks)[2:], before, call)

    def test_a_refused_make_leaves_the_one_mirror_of_the_beginning(self):
        for call in self.wrong_makes():
            self.assertEqual(ask(call, form([0]), form([1]))[1:], [word([0]), REFUSED], call)


class RefusalsChangeNothing(unittest.TestCase):
    def test_of_words_and_powers(self):
        looks = [form([2, 1, 2, 1, 0]), ends([1, 2, 0]), length([0, 1, 0, 2, 1, 0])]
        wanted = ask_of(*THREE, looks)
        refused = one_word_calls([3]) + two_word_calls([0] * 33) + [power(5, [0]), power(-5, [0])]
        for call in refused:
            self.assertEqual(ask(make(*THREE), call, *looks)[1:], [REFUSED] + wanted, call)

    def test_of_words_that_are_too_long(self):
        w = [0, 1, 2, 1] * 8
        told = ask(make(*FREE_THREE), power(3, w), form(w))
        self.assertEqual(told, [[0, 0], TOO_LONG, word(w)])

    def test_the_calls_read_on_behind_a_refusal(self):
        told = ask(times([3] * 40, [0] * 200), form([0]), power(7, [0] * 40), same([5], [0, 0]), form([0]))
        self.assertEqual(told, [REFUSED, word([0]), REFUSED, REFUSED, word([0])])


if __name__ == "__main__":
    unittest.main()
