"""What hangs on words: if one lies below another, and a word's order, mirror, ways and parts."""

from mirrorwordsdesk.groups import groups_of, linked_to
from mirrorwordsdesk.words import all_of, beginnings_among, form_of, opposite_of, put_in_front, sums_of, taken_away
from mirrorwordsdesk.words import word_in_front

# With 8 mirrors no word has a greater order.
GREATEST_ORDER = 120

ODD_TURNS = (3, 5)


# Let w begin with s, and take s away from it, and from v too if v begins with s: what is left of v lies below
# what is left of w just if v lies below w. In the end nothing is left of w, and below that lies nothing alone.
def lies_below(mirrors, v, w):
    sums = sums_of(mirrors, v)
    for s in form_of(mirrors, w):
        if sums[s] < 0:
            sums = put_in_front(mirrors, s, sums)
    return sums == mirrors.no_mirrors


def one_at(place, places):
    return tuple([1 if other == place else 0 for other in range(places)])


# How many times each new sum has each old one in it, once the word is put in front.
def shares_of(mirrors, word):
    places = len(mirrors.no_mirrors)
    columns = [word_in_front(mirrors, word, one_at(place, places)) for place in range(places)]
    shares = []
    for place in range(places):
        shares.append([column[place] for column in columns])
    return shares


def sum_of_products(row, sums):
    return sum([share * number for share, number in zip(row, sums)])


# By its shares a long word is put in front in one step, again and again.
def order_of(mirrors, word):
    shares = shares_of(mirrors, form_of(mirrors, word))
    sums = mirrors.no_mirrors
    for k in range(1, GREATEST_ORDER + 1):
        sums = tuple([sum_of_products(row, sums) for row in shares])
        if sums == mirrors.no_mirrors:
            return k
    return 0


# A shortest word is some u, then s, then u's mirrors in the opposite order just if it has a middle place
# without which nothing is left of it, and then s may be the mirror there.
def middle_mirror(mirrors, word):
    form = form_of(mirrors, word)
    middle = len(form) // 2
    if form == [] or form_of(mirrors, form[:middle] + form[middle + 1:]) != []:
        return None
    return form[middle]


# And s may be another mirror just if steps of odd turns lead from the one to the other.
def least_mirror(mirrors, word):
    s = middle_mirror(mirrors, word)
    if s is None:
        return None
    return min(linked_to(mirrors.table, all_of(mirrors), s, ODD_TURNS))


# From words, and in how many ways each is reached, to those with one mirror less in front.
def ways_on(mirrors, members, ways):
    found = {}
    for sums, many in ways.items():
        for s in beginnings_among(members, sums):
            left = put_in_front(mirrors, s, sums)
            found[left] = found.get(left, 0) + many
    return found


def ways_within(mirrors, group, form):
    ways = {sums_of(mirrors, form): 1}
    for step in range(len(form)):
        ways = ways_on(mirrors, group, ways)
    return ways[mirrors.no_mirrors]


def choices(many, few):
    found = 1
    for step in range(few):
        found = found * (many - step) // (step + 1)
    return found


# Mirrors of two groups may stand among one another in every way; searched for together, the words on the way
# would be far too many.
def ways_of(mirrors, form):
    ways = 1
    placed = 0
    for group in groups_of(mirrors, [s for s in all_of(mirrors) if s in form]):
        part = [s for s in form if s in group]
        placed += len(part)
        ways = ways * choices(placed, len(part)) * ways_within(mirrors, group, part)
    return ways


# What the word ends with of the members is taken away behind it, until it ends with none of them.
def parts_of(mirrors, members, word):
    taken = taken_away(mirrors, members, sums_of(mirrors, opposite_of(word)))
    return (form_of(mirrors, word + taken), form_of(mirrors, opposite_of(taken)))
