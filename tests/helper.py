"""Calls as lists of numbers, answers taken apart, and other ways to reckon what words are the same."""

from itertools import product

from mirrorwordsdesk.mirrors import answers

MOST_CALLS = 400
TURNS = (0, 2, 3, 4, 5, 6)


def counted(row):
    return [len(row)] + list(row)


def make(n, turns):
    return [0, n] + counted(turns)


def form(w):
    return [1] + counted(w)


def times(v, w):
    return [2] + counted(v) + counted(w)


def back(w):
    return [3] + counted(w)


def power(k, w):
    return [4, k] + counted(w)


def length(w):
    return [5] + counted(w)


def same(v, w):
    return [6] + counted(v) + counted(w)


def begins(w):
    return [7] + counted(w)


def ends(w):
    return [8] + counted(w)


def split_answers(told):
    """The answers one by one, each without how many numbers it has."""
    found = []
    place = 0
    while place < len(told):
        many = told[place]
        found.append(told[place + 1:place + 1 + many])
        place += 1 + many
    return found


def ask(*calls):
    """The answers of these calls, on one list."""
    line = []
    for call in calls:
        line.extend(call)
    return split_answers(answers(line))


def ask_of(n, turns, calls):
    """The answers of any number of calls on the mirrors n with these turns, on as many lists as that takes."""
    calls = list(calls)
    found = []
    for start in range(0, len(calls), MOST_CALLS - 1):
        part = ask(make(n, turns), *calls[start:start + MOST_CALLS - 1])
        assert part[0] == [0, 0], part[0]
        found.extend(part[1:])
    return found


def word(row):
    """What is answered when this word is told."""
    return [0] + counted(row)


def pairs(n):
    return [(i, j) for i in range(n) for j in range(i + 1, n)]


def turn_table(n, turns):
    table = {}
    for (i, j), turn in zip(pairs(n), turns):
        table[i, j] = turn
        table[j, i] = turn
    return table


def line_of_threes(n):
    """The turns of n mirrors in a row, 3 between neighbours and 2 between others."""
    return [3 if j == i + 1 else 2 for i, j in pairs(n)]


def by_turns(s, t, many):
    return tuple(s if place % 2 == 0 else t for place in range(many))


def left_out(w):
    """All words that come of w by leaving two equal mirrors out."""
    return [w[:k] + w[k + 2:] for k in range(len(w) - 1) if w[k] == w[k + 1]]


def exchanged(w, table):
    """All words that come of w by one exchange, each with its turn."""
    found = []
    for k in range(len(w) - 1):
        s, t = w[k], w[k + 1]
        turn = table.get((s, t), 0)
        if turn and w[k:k + turn] == by_turns(s, t, turn):
            found.append((turn, w[:k] + by_turns(t, s, turn) + w[k + turn:]))
    return found


def words_up_to(n, longest):
    """All words of at most this length, in order."""
    return [w for many in range(longest + 1) for w in product(range(n), repeat=many)]


def first_words(n, turns, longest):
    """For each word of at most this length the first that some row of steps leads to, by the rules alone.

    Walked in order, so the first word that reaches another is the first of all that are the same. No step
    goes through a longer word than the longest: shortest words are reached without one.
    """
    table = turn_table(n, turns)
    first = {}
    for begin in words_up_to(n, longest):
        if begin in first:
            continue
        first[begin] = begin
        waiting = [begin]
        while waiting:
            w = waiting.pop()
            for other in steps_from(w, n, table, longest):
                if other not in first:
                    first[other] = begin
                    waiting.append(other)
    return first


def steps_from(w, n, table, longest):
    found = left_out(w) + [other for _, other in exchanged(w, table)]
    if len(w) + 2 <= longest:
        found += [w[:k] + (s, s) + w[k:] for k in range(len(w) + 1) for s in range(n)]
    return found


class Roots:
    """The document's own way: each mirror's whole root, seen in a word's mirrors."""

    def __init__(self, n, turns):
        self.n = n
        self.table = turn_table(n, turns)

    def weight(self, i, j):
        turn = self.table[i, j]
        if turn == 5:
            return (0, -1)
        steep = {2: 0, 3: -1, 4: -2, 6: -3, 0: -2}
        flat = {2: 0, 3: -1, 4: -1, 6: -1, 0: -2}
        return (steep[turn] if i < j else flat[turn], 0)

    def seen(self, root, i):
        a, b = -root[i][0], -root[i][1]
        for j in range(self.n):
            if j != i:
                p, q = self.weight(i, j)
                c, d = root[j]
                a, b = a - p * c - q * d, b - p * d - q * c - q * d
        return root[:i] + [(a, b)] + root[i + 1:]

    def makes_shorter(self, s, mirrors):
        root = [(1 if t == s else 0, 0) for t in range(self.n)]
        for i in mirrors:
            root = self.seen(root, i)
        return any(is_below(a, b) for a, b in root)

    def begins(self, w):
        return [s for s in range(self.n) if self.makes_shorter(s, w)]

    def ends(self, w):
        return [s for s in range(self.n) if self.makes_shorter(s, w[::-1])]

    def form(self, w):
        found = []
        left = list(w)
        first = self.begins(left)[:1]
        while first:
            found += first
            left = first + left
            first = self.begins(left)[:1]
        return found


def is_below(a, b):
    """If a + b phi is below 0, by cases: below 0 just if a is below -b phi."""
    if a >= 0 and b >= 0:
        return False
    if a <= 0 and b <= 0:
        return True
    # The product with the conjugate, a a + a b - b b, has the sign of the number where that of the
    # conjugate a + b - b phi is above 0, and that is so just if b is below 0 here.
    product_of_both = a * a + a * b - b * b
    return product_of_both < 0 if b < 0 else product_of_both > 0


def permuted(w, many):
    """What the word does to a row, mirror s exchanging the places s and s + 1."""
    row = list(range(many))
    for s in w:
        row[s], row[s + 1] = row[s + 1], row[s]
    return row


def permutation_form(w, many):
    """The form of a word of such mirrors, by sorting: the first of the shortest words."""
    place_of = permuted(w, many)
    inverse = [place_of.index(k) for k in range(many)]
    found = []
    while True:
        down = [s for s in range(many - 1) if inverse[s] > inverse[s + 1]]
        if not down:
            return found
        s = down[0]
        found.append(s)
        inverse[s], inverse[s + 1] = inverse[s + 1], inverse[s]


def inversions(row):
    return sum(1 for i, j in pairs(len(row)) if row[i] > row[j])
