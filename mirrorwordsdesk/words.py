"""Words of mirrors: their forms, and the mirrors they begin and end with.

The document reckons with the root of each mirror, seen in a word's mirrors, the first one first. The numbers
a + b phi of such a root are never of both signs, and neither are all their a and b: these are the numbers of a
root of twice as many mirrors, whose weights are whole. So of each root only one sum is kept, of all its a and b.
It is below 0 just if the mirror in front makes the word shorter. A mirror that is put in front of the word
changes the sums by its weights, and two words have the same sums just if they are the same.

Where some turn is 5, such a sum is kept of each root times phi, too, behind the others. Once more times phi it is
both sums together, since phi phi = phi + 1. So no sum is other than a whole number.
"""

# A mirror's turn with itself, so that its weight stands among the others.
OWN_TURN = 1

# By the turn: the number p(i, j) of the document, for i below j and for other i.
WEIGHT_BELOW = {0: -2, 3: -1, 4: -2, 6: -3}
WEIGHT_ELSE = {0: -2, 1: 2, 3: -1, 4: -1, 6: -1}


def table_of(n, turns):
    table = [[OWN_TURN] * n for i in range(n)]
    place = 0
    for i in range(n):
        for j in range(i + 1, n):
            table[i][j] = turns[place]
            table[j][i] = turns[place]
            place += 1
    return table


# What mirror s in front takes away from the sums: from which one, how many times, and which old sum.
# With turn 2 that is nothing, and with turn 5 it is -phi times the root of s.
def weights_of(table, s):
    n = len(table)
    found = []
    for t in range(n):
        turn = table[s][t]
        if turn == 5:
            found.extend([(t, -1, n + s), (n + t, -1, s), (n + t, -1, n + s)])
        elif turn != 2:
            weight = WEIGHT_BELOW[turn] if s < t else WEIGHT_ELSE[turn]
            found.extend([(t, weight, s), (n + t, weight, n + s)])
    return found


class Mirrors:
    def __init__(self):
        self.take(1, [])

    def take(self, n, turns):
        self.many = n
        self.table = table_of(n, turns)
        # Without a turn of 5 the sums of roots times phi tell nothing, and take as long again.
        places = 2 * n if 5 in turns else n
        self.no_mirrors = (1,) * places
        self.weights = []
        for s in range(n):
            self.weights.append([weight for weight in weights_of(self.table, s) if weight[0] < places])


def put_in_front(mirrors, s, sums):
    changed = list(sums)
    for place, weight, own in mirrors.weights[s]:
        changed[place] -= weight * sums[own]
    return tuple(changed)


def word_in_front(mirrors, word, sums):
    for s in reversed(word):
        sums = put_in_front(mirrors, s, sums)
    return sums


def sums_of(mirrors, word):
    return word_in_front(mirrors, word, mirrors.no_mirrors)


def all_of(mirrors):
    return list(range(mirrors.many))


def beginnings_among(members, sums):
    return [s for s in members if sums[s] < 0]


# Put in front of a word that begins with it, a mirror is taken away there.
def taken_away(mirrors, members, sums):
    taken = []
    begins = beginnings_among(members, sums)
    while begins:
        taken.append(begins[0])
        sums = put_in_front(mirrors, begins[0], sums)
        begins = beginnings_among(members, sums)
    return taken


def form_of(mirrors, word):
    return taken_away(mirrors, all_of(mirrors), sums_of(mirrors, word))


def opposite_of(word):
    return list(reversed(word))


def beginnings_of(mirrors, word):
    return beginnings_among(all_of(mirrors), sums_of(mirrors, word))


# Words that are the same stay so in the opposite order, with the same length.
def endings_of(mirrors, word):
    return beginnings_of(mirrors, opposite_of(word))
