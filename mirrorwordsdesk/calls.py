"""The calls on one group of mirrors: what each looks at first, and what it answers behind the 0."""

from mirrorwordsdesk.words import beginnings_of, endings_of, form_of, opposite_of, weights_of

MOST_MIRRORS = 8
GREATEST_TURN = 6
LONGEST_HANDED = 32
LONGEST_TOLD = 64
GREATEST_POWER = 4


# The refusal -1.
class NotTaken(Exception):
    pass


# The refusal -2.
class TooLong(Exception):
    pass


class Mirrors:
    def __init__(self):
        self.many = 1
        self.weights = weights_of(1, [])


def look_at_word(mirrors, word):
    if len(word) > LONGEST_HANDED or any([s >= mirrors.many for s in word]):
        raise NotTaken()


def look_at_words(mirrors, words):
    for word in words:
        look_at_word(mirrors, word)


def look_at_turns(n, turns):
    if n < 1 or n > MOST_MIRRORS or 2 * len(turns) != n * (n - 1):
        raise NotTaken()
    if any([turn == 1 or turn > GREATEST_TURN for turn in turns]):
        raise NotTaken()


def counted(row):
    return [len(row)] + row


def told_form(mirrors, word):
    told = form_of(mirrors.weights, word)
    if len(told) > LONGEST_TOLD:
        raise TooLong()
    return counted(told)


def make(mirrors, numbers, rows):
    look_at_turns(numbers[0], rows[0])
    mirrors.many = numbers[0]
    mirrors.weights = weights_of(numbers[0], rows[0])
    return [0]


def form(mirrors, numbers, rows):
    look_at_words(mirrors, rows)
    return told_form(mirrors, rows[0])


def times(mirrors, numbers, rows):
    look_at_words(mirrors, rows)
    return told_form(mirrors, rows[0] + rows[1])


def back(mirrors, numbers, rows):
    look_at_words(mirrors, rows)
    return told_form(mirrors, opposite_of(rows[0]))


def power(mirrors, numbers, rows):
    look_at_words(mirrors, rows)
    k = numbers[0]
    if abs(k) > GREATEST_POWER:
        raise NotTaken()
    word = opposite_of(rows[0]) if k < 0 else rows[0]
    return told_form(mirrors, word * abs(k))


def length(mirrors, numbers, rows):
    look_at_words(mirrors, rows)
    return [len(form_of(mirrors.weights, rows[0]))]


def same(mirrors, numbers, rows):
    look_at_words(mirrors, rows)
    alike = form_of(mirrors.weights, rows[0]) == form_of(mirrors.weights, rows[1])
    return [1 if alike else 0]


def begins(mirrors, numbers, rows):
    look_at_words(mirrors, rows)
    return counted(beginnings_of(mirrors.weights, rows[0]))


def ends(mirrors, numbers, rows):
    look_at_words(mirrors, rows)
    return counted(endings_of(mirrors.weights, rows[0]))


# By a call's number: how many whole numbers it has, how many rows, and what answers it.
CALLS = {
    0: (1, 1, make),
    1: (0, 1, form),
    2: (0, 2, times),
    3: (0, 1, back),
    4: (1, 1, power),
    5: (0, 1, length),
    6: (0, 2, same),
    7: (0, 1, begins),
    8: (0, 1, ends),
}
