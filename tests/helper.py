"""Calls as lists of numbers, answers taken apart, and other ways to reckon what words are the same."""

from itertools import product

from mirrorwordsdesk.mirrors import answers

MOST_CALLS = 400
TURNS = (0, 2, 3, 4, 5, 6)


def counted(row):
    return [len(row)] + list(row)


def make(n, turns):
    return [0, n] + counted(turns)


def form(w):
    return [1] + counted(w)


def times(v, w):
    return [2] + counted(v) + counted(w)


def back(w):
    return [3] + counted(w)


def power(k, w):
    return [4, k] + counted(w)


def length(w):
    return [5] + counted(w)


def same(v, w):
    return [6] + counted(v) + counted(w)


def begins(w):
    return [7] + counted(w)


def ends(w):
    return [8] + counted(w)


def below(v, w):
    return [9] + counted(v) + counted(w)


def order(w):
    return [10] + counted(w)


def mirror(w):
    return [11] + counted(w)


def ways(w):
    return [12] + counted(w)


def parts(members, w):
    return [13, members] + counted(w)


def size(members):
    return [14, members]


def longest(members):
    return [15, members]


def joined(members):
    return [16, members]


def count(members, k):
    return [17, members, k]


def split_answers(told):
    """The answers one by one, each without how many numbers it has."""
    found = []
    place = 0
    while place < len(told):
        many = told[place]
        found.append(told[place + 1:place + 1 + many])
        place += 1 + many
    return found


def ask(*calls):
    """The answers of these calls, on one list."""
    line = []
    for call in calls:
        line.extend(call)
    return split_answers(answers(line))


def ask_of(n, turns, calls):
    """The answers of any number of calls on the mirrors n with these turns, on as many lists as that takes."""
    calls = list(calls)
    found = []
    for start in range(0, len(calls), MOST_CALLS - 1):
        part = ask(make(n, turns), *calls[start:start + MOST_CALLS - 1])
        assert part[0] == [0, 0], part[0]
        found.extend(part[1:])
    return found


def one(group, call):
    """The answer of one call on a group of mirrors: how many, and their turns."""
    return ask_of(group[0], group[1], [call])[0]


def word(row):
    """What is answered when this word is told."""
    return [0] + counted(row)


def two_words(a, b):
    """What is answered when parts tells these two."""
    return [0] + counted(a) + counted(b)


def group_row(many, numbers):
    """What is answered when joined tells so many groups, and these numbers of the mirrors' groups."""
    return [0, 1, many] + counted(numbers)


def pairs(n):
    return [(i, j) for i in range(n) for j in range(i + 1, n)]


def turn_table(n, turns):
    table = {}
    for (i, j), turn in zip(pairs(n), turns):
        table[i, j] = turn
        table[j, i] = turn
    return table


def mirrors_with(n, turns):
    """So many mirrors, of which these couples have these turns, and the others 2."""
    return n, [turns.get(couple, 2) for couple in pairs(n)]


def line_of_threes(n):
    """The turns of n mirrors in a row, 3 between neighbours and 2 between others."""
    return [3 if j == i + 1 else 2 for i, j in pairs(n)]


def row_of(n, first):
    """The mirrors of a row whose first two have this turn, and other neighbours 3."""
    return n, [first if couple == (0, 1) else turn for couple, turn in zip(pairs(n), line_of_threes(n))]


def branched(n):
    """Mirrors with a row 0-2-3-4-.. of threes, and 1 beside 3."""
    return mirrors_with(n, {(0, 2): 3, (1, 3): 3, **{(s, s + 1): 3 for s in range(2, n - 1)}})


def forked(n):
    """Mirrors with a row 1-2-3-.. of threes, and 0 beside 2."""
    return mirrors_with(n, {(0, 2): 3, **{(s, s + 1): 3 for s in range(1, n - 1)}})


def beside(first, other):
    """The mirrors of two groups, with the turn 2 between one of the first and one of the other."""
    n = first[0] + other[0]
    table = dict(zip(pairs(first[0]), first[1]))
    table.update({(s + first[0], t + first[0]): turn for (s, t), turn in zip(pairs(other[0]), other[1])})
    return mirrors_with(n, table)


def renumbered(group, numbers):
    """The same mirrors, mirror s with the number numbers[s]."""
    table = turn_table(*group)
    return mirrors_with(group[0], {(numbers[s], numbers[t]): turn for (s, t), turn in table.items()})


def number_of(members):
    """The set of these mirrors, as a number."""
    return sum(2 ** s for s in members)


def all_sets(n):
    """Each set as a number, with its mirrors."""
    return [(number, [s for s in range(n) if number // 2 ** s % 2]) for number in range(2 ** n)]


def by_turns(s, t, many):
    return tuple(s if place % 2 == 0 else t for place in range(many))


def left_out(w):
    """All words that come of w by leaving two equal mirrors out."""
    return [w[:k] + w[k + 2:] for k in range(len(w) - 1) if w[k] == w[k + 1]]


def exchanged(w, table):
    """All words that come of w by one exchange, each with its turn."""
    found = []
    for k in range(len(w) - 1):
        s, t = w[k], w[k + 1]
        turn = table.get((s, t), 0)
        if turn and w[k:k + turn] == by_turns(s, t, turn):
            found.append((turn, w[:k] + by_turns(t, s, turn) + w[k + turn:]))
    return found


def words_up_to(n, longest):
    """All words of at most this length, in order."""
    return [w for many in range(longest + 1) for w in product(range(n), repeat=many)]


def first_words(n, turns, longest):
    """For each word of at most this length the first that some row of steps leads to, by the rules alone.

    Walked in order, so the first word that reaches another is the first of all that are the same. No step
    goes through a longer word than the longest: shortest words are reached without one.
    """
    table = turn_table(n, turns)
    first = {}
    for begin in words_up_to(n, longest):
        if begin in first:
            continue
        first[begin] = begin
        waiting = [begin]
        while waiting:
            w = waiting.pop()
            for other in steps_from(w, n, table, longest):
                if other not in first:
                    first[other] = begin
                    waiting.append(other)
    return first


def steps_from(w, n, table, longest):
    found = left_out(w) + [other for _, other in exchanged(w, table)]
    if len(w) + 2 <= longest:
        found += [w[:k] + (s, s) + w[k:] for k in range(len(w) + 1) for s in range(n)]
    return found


class Searched:
    """The words of at most this length (or all), by the rules alone: exchanges, and leaving two equal mirrors out.

    No two equal mirrors are put in: that a shortest word is reached without it is what first_words holds this
    against. For each form all shortest words, and for each form and mirror the form with it behind.
    """

    def __init__(self, n, turns, longest=None):
        self.n = n
        self.turns = turns
        self.table = turn_table(n, turns)
        self.shortest = {(): [()]}
        self.form_of = {(): ()}
        self.behind = {}
        level = [()]
        while level and (longest is None or len(level[0]) < longest):
            before = len(self.shortest)
            for f in level:
                for s in range(n):
                    self.put_behind(f, s)
            level = list(self.shortest)[before:]

    def put_behind(self, f, s):
        w = f + (s,)
        if w not in self.form_of:
            alike = self.by_exchanges(w)
            shorter = [short for other in alike for short in left_out(other)]
            if shorter:
                self.behind[f, s] = self.form_of[shorter[0]]
                return
            self.shortest[min(alike)] = alike
            self.form_of.update(dict.fromkeys(alike, min(alike)))
        self.behind[f, s] = self.form_of[w]
        self.behind[self.form_of[w], s] = f

    def by_exchanges(self, w):
        found = {w: True}
        waiting = [w]
        while waiting:
            for _, other in exchanged(waiting.pop(), self.table):
                if other not in found:
                    found[other] = True
                    waiting.append(other)
        return list(found)

    def form(self, w, f=()):
        """The form of f with w behind it."""
        for s in w:
            f = self.behind[f, s]
        return f

    def made_by(self, members):
        return [f for f in self.shortest if set(f) <= set(members)]

    def ends(self, f):
        return sorted({w[-1] for w in self.shortest[f] if w})

    def below(self, f):
        """All forms that come of f by leaving out some of its places."""
        found = {()}
        for s in f:
            found |= {self.behind[v, s] for v in found}
        return found

    def order(self, f):
        k, w = 1, f
        while w:
            k, w = k + 1, self.form(f, w)
        return k

    def pairs_of_parts(self, members, longest):
        """For each form the pairs of which the second is made by the members, and the first ends with none."""
        firsts = [a for a in self.shortest if not set(self.ends(a)) & set(members)]
        found = {}
        for b in self.made_by(members):
            for a in firsts:
                if longest is None or len(a) + len(b) <= longest:
                    found.setdefault(self.form(b, a), []).append((a, b))
        return found

    def mirrors_seen(self, longest):
        """For each form of u, s, and u's mirrors in the opposite order, the least such s."""
        found = {}
        for s in reversed(range(self.n)):
            for u in self.shortest:
                if longest is None or len(u) <= longest:
                    found[self.form((s,) + u[::-1], u)] = s
        return found


class Roots:
    """The document's own way: each mirror's whole root, seen in a word's mirrors."""

    def __init__(self, n, turns):
        self.n = n
        self.table = turn_table(n, turns)

    def weight(self, i, j):
        turn = self.table[i, j]
        if turn == 5:
            return (0, -1)
        steep = {2: 0, 3: -1, 4: -2, 6: -3, 0: -2}
        flat = {2: 0, 3: -1, 4: -1, 6: -1, 0: -2}
        return (steep[turn] if i < j else flat[turn], 0)

    def seen(self, root, i):
        a, b = -root[i][0], -root[i][1]
        for j in range(self.n):
            if j != i:
                p, q = self.weight(i, j)
                c, d = root[j]
                a, b = a - p * c - q * d, b - p * d - q * c - q * d
        return root[:i] + [(a, b)] + root[i + 1:]

    def makes_shorter(self, s, mirrors):
        root = [(1 if t == s else 0, 0) for t in range(self.n)]
        for i in mirrors:
            root = self.seen(root, i)
        return any(is_below(a, b) for a, b in root)

    def begins(self, w):
        return [s for s in range(self.n) if self.makes_shorter(s, w)]

    def ends(self, w):
        return [s for s in range(self.n) if self.makes_shorter(s, w[::-1])]

    def form(self, w):
        found = []
        left = list(w)
        first = self.begins(left)[:1]
        while first:
            found += first
            left = first + left
            first = self.begins(left)[:1]
        return found


    def order(self, w, most):
        """How many times w leads each root back to itself, if at most so many; else 0."""
        own = [[(1 if t == s else 0, 0) for t in range(self.n)] for s in range(self.n)]
        now = own
        for k in range(1, most + 1):
            for i in w:
                now = [self.seen(root, i) for root in now]
            if now == own:
                return k
        return 0

    def steps_up(self, row, members):
        """The rows of numbers that come of this one by a member whose number is above 0."""
        found = []
        for s in members:
            if row[s] != (0, 0) and not is_below(*row[s]):
                c, d = row[s]
                changed = list(row)
                changed[s] = (-c, -d)
                for t in range(self.n):
                    if t != s:
                        p, q = self.weight(s, t)
                        a, b = row[t]
                        changed[t] = (a - p * c - q * d, b - p * d - q * c - q * d)
                found.append(tuple(changed))
        return found

    def levels(self, members, begin):
        """How many rows come of the first one by so many steps up, for each number of steps."""
        level = {tuple(begin): True}
        found = []
        while level:
            found.append(len(level))
            level = {new: True for row in level for new in self.steps_up(row, members)}
        return found

    def counted(self, members):
        """How many words of each length the members make, if finitely many: no two lead 1, 1, .. to the same."""
        return self.levels(members, [(1, 0)] * self.n)

    def counted_in_steps(self, members):
        """How many words the members make, with and without the last one, that one's, and so on."""
        size = 1
        for many in range(1, len(members) + 1):
            last = members[many - 1]
            size *= sum(self.levels(members[:many], [(1 if s == last else 0, 0) for s in range(self.n)]))
        return size


def is_below(a, b):
    """If a + b phi is below 0, by cases: below 0 just if a is below -b phi."""
    if a >= 0 and b >= 0:
        return False
    if a <= 0 and b <= 0:
        return True
    # The product with the conjugate, a a + a b - b b, has the sign of the number where that of the
    # conjugate a + b - b phi is above 0, and that is so just if b is below 0 here.
    product_of_both = a * a + a * b - b * b
    return product_of_both < 0 if b < 0 else product_of_both > 0


def permuted(w, many):
    """What the word does to a row, mirror s exchanging the places s and s + 1."""
    row = list(range(many))
    for s in w:
        row[s], row[s + 1] = row[s + 1], row[s]
    return row


def permutation_form(w, many):
    """The form of a word of such mirrors, by sorting: the first of the shortest words."""
    place_of = permuted(w, many)
    inverse = [place_of.index(k) for k in range(many)]
    found = []
    while True:
        down = [s for s in range(many - 1) if inverse[s] > inverse[s + 1]]
        if not down:
            return found
        s = down[0]
        found.append(s)
        inverse[s], inverse[s + 1] = inverse[s + 1], inverse[s]


def signed(w, many):
    """What the word does to a row of twice as many places, mirror 0 exchanging those in the middle, and mirror s
    those s off it on both sides."""
    row = list(range(2 * many))
    for s in w:
        low, high = many - 1 - s, many + s
        row[low], row[low + 1] = row[low + 1], row[low]
        if s:
            row[high], row[high - 1] = row[high - 1], row[high]
    return row


def lies_below(row, other):
    """If the one exchange of places lies below the other, by how many high numbers stand in front."""
    many = len(row)
    for i in range(many):
        for j in range(many):
            if sum(1 for k in row[:i] if k >= j) > sum(1 for k in other[:i] if k >= j):
                return False
    return True


def times_until_back(row):
    """How often the exchange must be done until all is in its place."""
    first = list(range(len(row)))
    now, k = row, 1
    while now != first:
        now, k = [now[place] for place in row], k + 1
    return k


def ways_to_sort(row, known):
    """In how many ways exchanges of neighbours in the wrong order lead to the row in order."""
    key = tuple(row)
    if key not in known:
        down = [s for s in range(len(row) - 1) if row[s] > row[s + 1]]
        known[key] = sum(ways_to_sort(row[:s] + [row[s + 1], row[s]] + row[s + 2:], known) for s in down) or 1
    return known[key]


def inversions(row):
    return sum(1 for i, j in pairs(len(row)) if row[i] > row[j])
