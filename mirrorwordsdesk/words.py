"""Words of mirrors: their forms, and the mirrors they begin and end with.

The document reckons with the root of each mirror, seen in a word's mirrors, the first one first.
Here only the sum of such a root's numbers is kept. They are never of both signs, so the sum is
below 0 just if one of them is, and that tells if the mirror in front makes the word shorter.
A mirror put in front of the word changes the sums by its weights and its own sum alone.
"""

from mirrorwordsdesk.golden import below_zero, less_product

OWN_WEIGHT = (2, 0)

# By the turn: the number p(i, j) of the document, for i below j and for i above j.
WEIGHT_BELOW = {0: (-2, 0), 2: (0, 0), 3: (-1, 0), 4: (-2, 0), 5: (0, -1), 6: (-3, 0)}
WEIGHT_ABOVE = {0: (-2, 0), 2: (0, 0), 3: (-1, 0), 4: (-1, 0), 5: (0, -1), 6: (-1, 0)}


def weights_of(n, turns):
    weights = [[OWN_WEIGHT] * n for i in range(n)]
    place = 0
    for i in range(n):
        for j in range(i + 1, n):
            weights[i][j] = WEIGHT_BELOW[turns[place]]
            weights[j][i] = WEIGHT_ABOVE[turns[place]]
            place += 1
    return weights


def put_in_front(weights, s, sums):
    own = sums[s]
    return [less_product(old, p, own) for old, p in zip(sums, weights[s])]


def sums_of(weights, word):
    sums = [(1, 0)] * len(weights)
    for s in reversed(word):
        sums = put_in_front(weights, s, sums)
    return sums


def least_beginning(sums):
    for s, number in enumerate(sums):
        if below_zero(number):
            return s
    return None


# Each mirror that is told is put in front of what is left, which takes it away there.
def form_of(weights, word):
    told = []
    sums = sums_of(weights, word)
    s = least_beginning(sums)
    while s is not None:
        told.append(s)
        sums = put_in_front(weights, s, sums)
        s = least_beginning(sums)
    return told


def opposite_of(word):
    return list(reversed(word))


def beginnings_of(weights, word):
    return [s for s, number in enumerate(sums_of(weights, word)) if below_zero(number)]


# Words that are the same stay so in the opposite order, with the same length.
def endings_of(weights, word):
    return beginnings_of(weights, opposite_of(word))
