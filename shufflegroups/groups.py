"""The calls on three places for groups, read from one list and answered in one list."""

from shufflegroups.maps import all_maps, first_same, too_many_choices
from shufflegroups.quotients import paired, quotient, shape_of
from shufflegroups.shuffles import first_then, parted, unmoved
from shufflegroups.structure import MOST_GENERATORS, MOST_IN_A_GROUP, generated
from shufflegroups.subgroups import is_prime, is_simple, prime_subgroup, row_of_mixed
from shufflegroups.subsets import commuting, is_normal, is_set, is_subgroup, keeping
from shufflegroups.subsets import least_in_classes, least_in_cosets, least_normal, least_subgroup, mixed_of

PLACES = 3

# What stands behind a call's number, a letter each. Numbers: d a place, k a place
# with a group, i an element of that group, n any number. Rows: s a set of that
# group, a any row. A call that begins with d puts a group there.
FORMS = {
    1: "dna", 2: "k", 3: "ki", 4: "ka", 5: "ki", 6: "kii", 7: "ki", 8: "kin", 9: "ki",
    10: "ks", 11: "ks", 12: "ks", 13: "ks", 14: "ks", 15: "kss", 16: "k", 17: "ks", 18: "kn", 19: "kn",
    20: "k", 21: "k", 22: "dks", 23: "dkk", 24: "kk", 25: "kk",
}
ROWS = "as"


class Reader:
    """Goes through a list from its beginning and leaves it as it is."""

    def __init__(self, numbers):
        self.numbers = numbers
        self.at = 0

    def ended(self):
        return self.at >= len(self.numbers)

    def take_number(self):
        self.at += 1
        return self.numbers[self.at - 1]

    def take_row(self):
        length = self.take_number()
        self.at += length
        return self.numbers[self.at - length:self.at]


def counted(row):
    return [len(row)] + list(row)


def parts(least):
    """How many parts the group falls into, and of each element the least number in its part."""
    return [len(set(least))] + least


def size(group):
    return [group.size()]


def name(group, i):
    return counted(group.names[i])


def number(group, a):
    wanted = tuple(a)
    if wanted not in group.names:
        return [-2]
    return [group.names.index(wanted)]


def word(group, i):
    return counted(group.words[i])


def times(group, i, j):
    return [group.times(i, j)]


def inverse(group, i):
    return [group.inverse(i)]


def power(group, i, n):
    return [group.power(i, n)]


def order(group, i):
    return [group.order(i)]


def made(group, s):
    return counted(least_subgroup(group, s))


def kind(group, s):
    if not is_subgroup(group, s):
        return [0]
    if not is_normal(group, s):
        return [1]
    return [2]


def normal(group, s):
    return counted(least_normal(group, s))


def central(group, s):
    return counted(commuting(group, s))


def stay(group, s):
    return counted(keeping(group, s))


def mixed(group, s, t):
    return counted(mixed_of(group, s, t))


def classes(group):
    return parts(least_in_classes(group))


def cosets(group, s):
    if not is_subgroup(group, s):
        return [-2]
    return parts(least_in_cosets(group, s))


def series(group, h):
    return counted([len(subgroup) for subgroup in row_of_mixed(group, h != 0)])


def prime(group, p):
    if p >= MOST_IN_A_GROUP or not is_prime(p):
        return [-2]
    return counted(prime_subgroup(group, p))


def shape(group):
    return counted(shape_of(group))


def simple(group):
    return [1 if is_simple(group) else 0]


def same(group, other):
    if too_many_choices(group, other):
        return [-6]
    row = first_same(group, other)
    return [0] if row is None else [1] + row


def maps(group, other):
    if too_many_choices(group, other):
        return [-6]
    return [len(all_maps(group, other))]


ASKING = {
    2: size, 3: name, 4: number, 5: word, 6: times, 7: inverse, 8: power, 9: order,
    10: made, 11: kind, 12: normal, 13: central, 14: stay, 15: mixed, 16: classes, 17: cosets,
    18: series, 19: prime, 20: shape, 21: simple, 24: same, 25: maps,
}


def ask(call, values):
    asked = ASKING[call]
    if len(values) == 1:
        return asked(values[0])
    if len(values) == 2:
        return asked(values[0], values[1])
    return asked(values[0], values[1], values[2])


def put(places, d, group):
    places[d] = group
    return [group.size()]


def make(places, d, n, g):
    generators = parted(n, g)
    if generators is None:
        return [-1]
    group = generated(unmoved(n), generators, first_then)
    if group is None:
        return [-3]
    return put(places, d, group)


def over(places, d, group, s):
    if not is_normal(group, s):
        return [-2]
    return put(places, d, quotient(group, s))


def pairs(places, d, group, other):
    if len(group.generators) + len(other.generators) > MOST_GENERATORS:
        return [-3]
    product = paired(group, other)
    if product is None:
        return [-3]
    return put(places, d, product)


PUTTING = {1: make, 22: over, 23: pairs}


def fits_places(places, letter, k):
    if k >= len(places):
        return False
    return letter == "d" or places[k] is not None


def fits_group(group, letter, value):
    if letter == "i":
        return value < group.size()
    if letter == "s":
        return is_set(group, value)
    return True


def all_fit(places, form, given):
    group = None
    for letter, value in zip(form, given):
        if letter in "dk":
            if not fits_places(places, letter, value):
                return False
            # The letters behind a k speak of the group in its place.
            group = places[value]
        elif not fits_group(group, letter, value):
            return False
    return True


def answer(places, call, given):
    form = FORMS[call]
    if not all_fit(places, form, given):
        return [-1]
    values = [places[value] if letter == "k" else value for letter, value in zip(form, given)]
    if call in PUTTING:
        return PUTTING[call](places, values[0], values[1], values[2])
    return ask(call, values)


def take_given(reader, form):
    given = []
    for letter in form:
        given.append(reader.take_row() if letter in ROWS else reader.take_number())
    return given


def answers(calls):
    places = [None] * PLACES
    reader = Reader(calls)
    told = []
    while not reader.ended():
        call = reader.take_number()
        given = take_given(reader, FORMS[call])
        told.extend(counted(answer(places, call, given)))
    return told
