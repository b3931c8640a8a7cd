"""The calls on three places for groups, read from one list and answered in one list."""

from shufflegroups.shuffles import first_then, parted, unmoved
from shufflegroups.structure import generated
from shufflegroups.subsets import commuting, is_normal, is_set, is_subgroup, least_normal, least_subgroup

PLACES = 3
MAKE = 1

# What stands behind a call's number, a letter each. Numbers: d a place, k a place
# with a group, i an element of that group, n any number. Rows: s a set of that
# group, a any row.
FORMS = {
    1: "dna", 2: "k", 3: "ki", 4: "ka", 5: "ki", 6: "kii", 7: "ki", 8: "kin", 9: "ki",
    10: "ks", 11: "ks", 12: "ks", 13: "ks",
}
ROWS = "as"


class Reader:
    """Goes through a list from its beginning and leaves it as it is."""

    def __init__(self, numbers):
        self.numbers = numbers
        self.at = 0

    def ended(self):
        return self.at >= len(self.numbers)

    def take_number(self):
        self.at += 1
        return self.numbers[self.at - 1]

    def take_row(self):
        length = self.take_number()
        self.at += length
        return self.numbers[self.at - length:self.at]


def counted(row):
    return [len(row)] + list(row)


def make(places, k, n, g):
    generators = parted(n, g)
    if generators is None:
        return [-1]
    group = generated(unmoved(n), generators, first_then)
    if group is None:
        return [-3]
    places[k] = group
    return [group.size()]


def size(group):
    return [group.size()]


def name(group, i):
    return counted(group.names[i])


def number(group, a):
    wanted = tuple(a)
    if wanted not in group.names:
        return [-2]
    return [group.names.index(wanted)]


def word(group, i):
    return counted(group.words[i])


def times(group, i, j):
    return [group.times(i, j)]


def inverse(group, i):
    return [group.inverse(i)]


def power(group, i, n):
    return [group.power(i, n)]


def order(group, i):
    return [group.order(i)]


def made(group, s):
    return counted(least_subgroup(group, s))


def kind(group, s):
    if not is_subgroup(group, s):
        return [0]
    if not is_normal(group, s):
        return [1]
    return [2]


def normal(group, s):
    return counted(least_normal(group, s))


def central(group, s):
    return counted(commuting(group, s))


ASKED_OF_ONE_GROUP = {
    2: size, 3: name, 4: number, 5: word, 6: times, 7: inverse, 8: power, 9: order,
    10: made, 11: kind, 12: normal, 13: central,
}


def ask(group, call, given):
    asked = ASKED_OF_ONE_GROUP[call]
    if len(given) == 0:
        return asked(group)
    if len(given) == 1:
        return asked(group, given[0])
    return asked(group, given[0], given[1])


def fits_places(places, letter, k):
    if k >= len(places):
        return False
    return letter == "d" or places[k] is not None


def fits_group(group, letter, value):
    if letter == "i":
        return value < group.size()
    if letter == "s":
        return is_set(group, value)
    return True


def all_fit(places, form, given):
    group = None
    for letter, value in zip(form, given):
        if letter in "dk":
            if not fits_places(places, letter, value):
                return False
            # The letters behind a k speak of the group in its place.
            group = places[value]
        elif not fits_group(group, letter, value):
            return False
    return True


def answer(places, call, given):
    if not all_fit(places, FORMS[call], given):
        return [-1]
    if call == MAKE:
        return make(places, given[0], given[1], given[2])
    return ask(places[given[0]], call, given[1:])


def take_given(reader, form):
    given = []
    for letter in form:
        given.append(reader.take_row() if letter in ROWS else reader.take_number())
    return given


def answers(calls):
    places = [None] * PLACES
    reader = Reader(calls)
    told = []
    while not reader.ended():
        call = reader.take_number()
        given = take_given(reader, FORMS[call])
        told.extend(counted(answer(places, call, given)))
    return told
