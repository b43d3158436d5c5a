"""The calls on one group of mirrors: what each looks at first, and what it answers behind the 0."""

from mirrorwordsdesk.groups import count_of, group_numbers, groups_of, longest_of, members_of, size_of
from mirrorwordsdesk.looks import least_mirror, lies_below, order_of, parts_of, ways_of
from mirrorwordsdesk.words import beginnings_of, endings_of, form_of, opposite_of

MOST_MIRRORS = 8
GREATEST_TURN = 6
LONGEST_HANDED = 32
LONGEST_TOLD = 64
GREATEST_POWER = 4
LONGEST_WITH_WAYS = 20
GREATEST_COUNTED = 4


# The refusal -1.
class NotTaken(Exception):
    pass


# The refusal -2.
class TooLong(Exception):
    pass


def look_at_word(mirrors, word):
    if len(word) > LONGEST_HANDED or any([s >= mirrors.many for s in word]):
        raise NotTaken()


def look_at_words(mirrors, words):
    for word in words:
        look_at_word(mirrors, word)


def look_at_turns(n, turns):
    if n < 1 or n > MOST_MIRRORS or 2 * len(turns) != n * (n - 1):
        raise NotTaken()
    if any([turn == 1 or turn > GREATEST_TURN for turn in turns]):
        raise NotTaken()


# Of all calls that have a set it is the first of their whole numbers.
def members_told(mirrors, numbers):
    if numbers[0] >> mirrors.many != 0:
        raise NotTaken()
    return members_of(numbers[0], mirrors.many)


def counted(row):
    return [len(row)] + row


def told_form(mirrors, word):
    told = form_of(mirrors, word)
    if len(told) > LONGEST_TOLD:
        raise TooLong()
    return counted(told)


def make(mirrors, numbers, rows):
    look_at_turns(numbers[0], rows[0])
    mirrors.take(numbers[0], rows[0])
    return [0]


def form(mirrors, numbers, rows):
    look_at_words(mirrors, rows)
    return told_form(mirrors, rows[0])


def times(mirrors, numbers, rows):
    look_at_words(mirrors, rows)
    return told_form(mirrors, rows[0] + rows[1])


def back(mirrors, numbers, rows):
    look_at_words(mirrors, rows)
    return told_form(mirrors, opposite_of(rows[0]))


def power(mirrors, numbers, rows):
    look_at_words(mirrors, rows)
    k = numbers[0]
    if abs(k) > GREATEST_POWER:
        raise NotTaken()
    word = opposite_of(rows[0]) if k < 0 else rows[0]
    return told_form(mirrors, word * abs(k))


def length(mirrors, numbers, rows):
    look_at_words(mirrors, rows)
    return [len(form_of(mirrors, rows[0]))]


def same(mirrors, numbers, rows):
    look_at_words(mirrors, rows)
    alike = form_of(mirrors, rows[0]) == form_of(mirrors, rows[1])
    return [1 if alike else 0]


def begins(mirrors, numbers, rows):
    look_at_words(mirrors, rows)
    return counted(beginnings_of(mirrors, rows[0]))


def ends(mirrors, numbers, rows):
    look_at_words(mirrors, rows)
    return counted(endings_of(mirrors, rows[0]))


def below(mirrors, numbers, rows):
    look_at_words(mirrors, rows)
    return [1 if lies_below(mirrors, rows[0], rows[1]) else 0]


def order(mirrors, numbers, rows):
    look_at_words(mirrors, rows)
    return [order_of(mirrors, rows[0])]


def mirror(mirrors, numbers, rows):
    look_at_words(mirrors, rows)
    s = least_mirror(mirrors, rows[0])
    return [0 if s is None else s + 1]


def ways(mirrors, numbers, rows):
    look_at_words(mirrors, rows)
    shortest = form_of(mirrors, rows[0])
    if len(shortest) > LONGEST_WITH_WAYS:
        raise TooLong()
    return [ways_of(mirrors, shortest)]


def parts(mirrors, numbers, rows):
    look_at_words(mirrors, rows)
    both = parts_of(mirrors, members_told(mirrors, numbers), rows[0])
    return counted(both[0]) + counted(both[1])


def size(mirrors, numbers, rows):
    return [size_of(mirrors, members_told(mirrors, numbers))]


def longest(mirrors, numbers, rows):
    word = longest_of(mirrors, members_told(mirrors, numbers))
    if word is None:
        raise TooLong()
    return told_form(mirrors, word)


def joined(mirrors, numbers, rows):
    groups = groups_of(mirrors, members_told(mirrors, numbers))
    return [1, len(groups)] + counted(group_numbers(mirrors, groups))


def count(mirrors, numbers, rows):
    members = members_told(mirrors, numbers)
    if numbers[1] > GREATEST_COUNTED:
        raise NotTaken()
    return [count_of(mirrors, members, numbers[1])]


# By a call's number: how many whole numbers it has, how many rows, and what answers it.
CALLS = {
    0: (1, 1, make),
    1: (0, 1, form),
    2: (0, 2, times),
    3: (0, 1, back),
    4: (1, 1, power),
    5: (0, 1, length),
    6: (0, 2, same),
    7: (0, 1, begins),
    8: (0, 1, ends),
    9: (0, 2, below),
    10: (0, 1, order),
    11: (0, 1, mirror),
    12: (0, 1, ways),
    13: (1, 1, parts),
    14: (1, 0, size),
    15: (1, 0, longest),
    16: (1, 0, joined),
    17: (2, 0, count),
}
