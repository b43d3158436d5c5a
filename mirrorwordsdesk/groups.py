"""Sets of mirrors: the groups they fall into, and how much they make."""

from mirrorwordsdesk.words import put_in_front

JOINING_TURNS = (0, 3, 4, 5, 6)

# With 8 mirrors that make finitely many words no form is longer.
GREATEST_LENGTH = 120

# How many words a group makes, if finitely many. Its shape is told by how many mirrors it has, its greatest
# turn (of one mirror its own) and the length of its longest word.
SIZES = {
    (1, 1, 1): 2,
    (2, 3, 3): 6, (2, 4, 4): 8, (2, 5, 5): 10, (2, 6, 6): 12,
    (3, 3, 6): 24, (3, 4, 9): 48, (3, 5, 15): 120,
    (4, 3, 10): 120, (4, 3, 12): 192, (4, 4, 16): 384, (4, 4, 24): 1152, (4, 5, 60): 14400,
    (5, 3, 15): 720, (5, 3, 20): 1920, (5, 4, 25): 3840,
    (6, 3, 21): 5040, (6, 3, 30): 23040, (6, 3, 36): 51840, (6, 4, 36): 46080,
    (7, 3, 28): 40320, (7, 3, 42): 322560, (7, 3, 63): 2903040, (7, 4, 49): 645120,
    (8, 3, 36): 362880, (8, 3, 56): 5160960, (8, 3, 120): 696729600, (8, 4, 64): 10321920,
}


def members_of(number, many):
    return [s for s in range(many) if (number >> s) & 1 == 1]


# The members that steps from s lead to, each step between two whose turn is one of the links.
def linked_to(table, members, s, links):
    linked = [s]
    place = 0
    while place < len(linked):
        near = table[linked[place]]
        linked.extend([t for t in members if near[t] in links and t not in linked])
        place += 1
    return linked


def groups_of(mirrors, members):
    groups = []
    left = members
    while left:
        group = linked_to(mirrors.table, left, left[0], JOINING_TURNS)
        groups.append(group)
        left = [s for s in left if s not in group]
    return groups


def group_numbers(mirrors, groups):
    numbers = [0] * mirrors.many
    for number, group in enumerate(groups, start=1):
        for s in group:
            numbers[s] = number
    return numbers


def lengthening_among(members, sums):
    return [s for s in members if sums[s] > 0]


# A word that no member in front makes longer is the longest; of endlessly many words there is none. What is
# told has its mirrors in the opposite order, and is the same: it is as long, and there is one alone.
def longest_of(mirrors, members):
    word = []
    sums = mirrors.no_mirrors
    longer = lengthening_among(members, sums)
    while longer:
        if len(word) == GREATEST_LENGTH:
            return None
        word.append(longer[0])
        sums = put_in_front(mirrors, longer[0], sums)
        longer = lengthening_among(members, sums)
    return word


def greatest_turn(table, group):
    turns = []
    for s in group:
        turns.extend([table[s][t] for t in group])
    return max(turns)


def shape_of(table, group, word):
    return (len(group), greatest_turn(table, group), len([s for s in word if s in group]))


# Mirrors of two groups may change places, so each word of the one goes with each of the other.
def size_of(mirrors, members):
    word = longest_of(mirrors, members)
    if word is None:
        return 0
    size = 1
    for group in groups_of(mirrors, members):
        size = size * SIZES[shape_of(mirrors.table, group, word)]
    return size


def one_longer(mirrors, members, level):
    found = {}
    for sums in level:
        for s in lengthening_among(members, sums):
            found[put_in_front(mirrors, s, sums)] = True
    return found


def count_of(mirrors, members, k):
    level = {mirrors.no_mirrors: True}
    for step in range(k):
        level = one_longer(mirrors, members, level)
    return len(level)
