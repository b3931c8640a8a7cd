"""Writes calls as numbers, parts what is answered, and knows groups by their definitions alone."""

from functools import reduce
from itertools import product as rows_of
from math import lcm

from shufflegroups.groups import answers

GREATEST = 4294967295

NUMBERS = {
    "make": 1, "size": 2, "name": 3, "number": 4, "word": 5, "times": 6, "inverse": 7,
    "power": 8, "order": 9, "made": 10, "kind": 11, "normal": 12, "central": 13,
    "stay": 14, "mixed": 15, "classes": 16, "cosets": 17, "series": 18, "prime": 19,
    "shape": 20, "simple": 21, "over": 22, "pairs": 23, "same": 24, "maps": 25,
}

# Groups by how many places and which shuffles; the names tell which group it is.
GROUPS = {
    "one": (4, []),
    "two": (2, [(1, 0)]),
    "three": (3, [(1, 2, 0)]),
    "four": (4, [(0, 1, 2, 3), (1, 2, 3, 0)]),
    "five": (5, [(1, 2, 3, 4, 0)]),
    "six": (5, [(1, 0, 3, 4, 2)]),
    "klein": (4, [(1, 0, 3, 2), (2, 3, 0, 1)]),
    "eight": (6, [(1, 0, 2, 3, 4, 5), (0, 1, 3, 2, 4, 5), (0, 1, 2, 3, 5, 4)]),
    "four and two": (6, [(1, 2, 3, 0, 4, 5), (0, 1, 2, 3, 5, 4)]),
    "nine": (6, [(1, 2, 0, 3, 4, 5), (0, 1, 2, 4, 5, 3)]),
    "triangle": (3, [(1, 0, 2), (1, 2, 0)]),
    "alike": (3, [(1, 2, 0), (0, 1, 2), (1, 2, 0), (1, 0, 2)]),
    "square": (4, [(1, 2, 3, 0), (1, 0, 3, 2)]),
    "hexagon": (6, [(1, 2, 3, 4, 5, 0), (5, 4, 3, 2, 1, 0)]),
    "tetrahedron": (4, [(1, 2, 0, 3), (0, 2, 3, 1)]),
    "twenty": (5, [(1, 2, 3, 4, 0), (0, 2, 4, 1, 3)]),
    "cube": (4, [(1, 2, 3, 0), (1, 0, 2, 3)]),
    "triangles": (6, [(1, 2, 0, 4, 3, 5), (1, 0, 2, 4, 5, 3)]),
    "icosahedron": (5, [(1, 2, 0, 3, 4), (1, 2, 3, 4, 0)]),
}

# Groups made of groups: over a normal subgroup of that size, or of pairs.
RECIPES = {
    "klein over one": ("over", "klein", 1),
    "triangle over all": ("over", "triangle", 6),
    "square over two": ("over", "square", 2),
    "cube over four": ("over", "cube", 4),
    "cube over four over three": ("over", "cube over four", 3),
    "klein and two": ("pairs", "klein", "two"),
    "two and one": ("pairs", "two", "one"),
    "triangle and three": ("pairs", "triangle", "three"),
    "triangle and four": ("pairs", "triangle", "four"),
    "triangle and four over two": ("over", "triangle and four", 2),
    "klein and klein": ("pairs", "klein", "klein"),
    "six and six": ("pairs", "six", "six"),
    "cube over four and square over two": ("pairs", "cube over four", "square over two"),
    "tetrahedron and five": ("pairs", "tetrahedron", "five"),
    "triangle and five": ("pairs", "triangle", "five"),
    "two and triangle and five": ("pairs", "two", "triangle and five"),
}


def call(what, *given):
    numbers = [NUMBERS[what]]
    for value in given:
        if isinstance(value, int):
            numbers.append(value)
        else:
            numbers.append(len(value))
            numbers.extend(value)
    return numbers


def make(k, n, shuffles):
    return call("make", k, n, [x for shuffle in shuffles for x in shuffle])


def parted(told):
    parts = []
    at = 0
    while at < len(told):
        parts.append(told[at + 1:at + 1 + told[at]])
        at += 1 + told[at]
    assert at == len(told), "the counts do not come out even"
    return parts


def run(*calls):
    """What each of the calls answers, all of them in one list on new places."""
    assert len(calls) <= 30, "more calls than a list may have"
    told = parted(answers([x for numbers in calls for x in numbers]))
    assert len(told) == len(calls), "not one answer for each call"
    return told


def after(first, asked):
    """What each of the asked calls answers behind the first ones, 30 calls at a time."""
    width = 30 - len(first)
    told = []
    for start in range(0, len(asked), width):
        told.extend(run(*first, *asked[start:start + width])[len(first):])
    return told


def ask(group, what, rows):
    """What each row's call answers about the group of that name, at place 0."""
    return after(calls_for(group, 0), [call(what, 0, *row) for row in rows])


def counted(row):
    return [len(row)] + list(row)


def snapshot(k, size):
    """Up to 25 calls that tell the group of that size, at place k, from others."""
    calls = [call("size", k), call("made", k, []), call("central", k, [])]
    for i in range(min(size, 11)):
        calls.append(call("name", k, i))
        calls.append(call("word", k, i))
    return calls


def carried_out(shuffles, n):
    """The shuffle that shuffles make from left to right, found by moving n things about."""
    things = list(range(n))
    for shuffle in shuffles:
        moved = [None] * n
        for x in range(n):
            moved[shuffle[x]] = things[x]
        things = moved
    return tuple(things.index(x) for x in range(n))


class Defined:
    """A group by the document's definitions, slow and plain."""

    def __init__(self, one, generators, product, name=tuple):
        words = {}
        length = 0
        found = True
        while found:
            found = False
            for word in rows_of(range(len(generators)), repeat=length):
                thing = reduce(product, [generators[g] for g in word], one)
                if thing not in words:
                    words[thing] = list(word)
                    found = True
            length += 1
        things = list(words)
        self.words = list(words.values())
        self.names = [name(thing) for thing in things]
        self.generators = [things.index(thing) for thing in generators]
        self.size = len(things)
        self.all = list(range(self.size))
        self.table = [[things.index(product(a, b)) for b in things] for a in things]
        self.inverses = [row.index(0) for row in self.table]
        self.known_subgroups = None

    def turned(self, i, j):
        return self.table[self.table[j][i]][self.inverses[j]]

    def order(self, i):
        k = 1
        reached = i
        while reached != 0:
            reached = self.table[reached][i]
            k += 1
        return k

    def is_subgroup(self, s):
        return len(s) > 0 and all(self.table[i][j] in s for i in s for j in s)

    def is_normal(self, s):
        return self.is_subgroup(s) and all(self.turned(i, j) in s for i in s for j in self.all)

    def subsets(self):
        for bits in range(2 ** self.size):
            yield [i for i in self.all if bits >> i & 1]

    def central(self, s):
        return [i for i in self.all if all(self.table[i][j] == self.table[j][i] for j in s)]

    def closed(self, s):
        """The least subgroup that has s, grown by products of any two."""
        found = set(s) | {0}
        before = 0
        while len(found) > before:
            before = len(found)
            found |= {self.table[i][j] for i in found for j in found}
        return sorted(found)

    def subgroups(self):
        """All subgroups: each is grown from smaller ones, an element more at a time."""
        if self.known_subgroups is None:
            found = [[0]]
            for subgroup in found:
                for i in self.all:
                    if i not in subgroup:
                        greater = self.closed(subgroup + [i])
                        if greater not in found:
                            found.append(greater)
            self.known_subgroups = found
        return self.known_subgroups

    def normal_of_size(self, size):
        """The normal subgroup of that size that is least by the first place that differs."""
        return min(s for s in self.subgroups() if len(s) == size and self.is_normal(s))

    def mixed(self, s, t):
        table = self.table
        return self.closed([table[table[table[self.inverses[i]][self.inverses[j]]][i]][j] for i in s for j in t])

    def staying(self, s):
        return [j for j in self.all if {self.turned(i, j) for i in s} == set(s)]

    def least_in_classes(self):
        return [min(self.turned(i, j) for j in self.all) for i in self.all]

    def least_in_cosets(self, s):
        return [min(self.table[i][x] for x in s) for i in self.all]

    def row_of_mixed(self, lower):
        row = [self.all]
        while True:
            following = self.mixed(row[-1], self.all if lower else row[-1])
            if len(following) == len(row[-1]):
                return row
            row.append(following)

    def prime(self, p):
        most = max(p ** x for x in range(7) if self.size % p ** x == 0)
        return min((s for s in self.subgroups() if len(s) == most), key=lambda s: sum(2 ** i for i in s))

    def shape(self):
        commuting = defined_quotient(self, self.mixed(self.all, self.all))
        orders = sorted(commuting.order(i) for i in commuting.all)
        shapes = [shape for shape in chains(commuting.size) if orders_in_rows(shape) == orders]
        assert len(shapes) == 1, "not one shape alone"
        return shapes[0]

    def is_simple(self):
        return len([s for s in self.subgroups() if self.is_normal(s)]) == 2

    def is_map(self, into, row):
        return all(row[self.table[i][j]] == into.table[row[i]][row[j]] for i in self.all for j in self.all)

    def maps(self, into):
        """Every map, from every choice of images for the generators, carried out along the words."""
        found = []
        for images in rows_of(into.all, repeat=len(self.generators)):
            row = [reduce(lambda i, g: into.table[i][images[g]], word, 0) for word in self.words]
            if [row[g] for g in self.generators] == list(images) and self.is_map(into, row):
                found.append(row)
        return found


def first_same(into, rows):
    """What same answers if these are all maps into that group."""
    onto = [list(row) for row in rows if sorted(row) == into.all]
    return [1] + min(onto) if onto else [0]


def chains(product, first=1):
    """All rows of numbers above 1, each a divisor of the next, that make that product."""
    if product == 1:
        return [[]]
    found = []
    for number in range(2, product + 1):
        if product % number == 0 and number % first == 0:
            found += [[number] + rest for rest in chains(product // number, number)]
    return found


def orders_in_rows(shape):
    """The orders of rows of numbers below these, added place by place."""
    rows = rows_of(*[range(number) for number in shape])
    return sorted(lcm(*[min(k for k in range(1, n + 1) if k * x % n == 0) for x, n in zip(row, shape)]) for row in rows)


def defined_shuffles(n, shuffles):
    return Defined(tuple(range(n)), shuffles, lambda a, b: carried_out([a, b], n))


def defined_quotient(group, s):
    """Cosets as they stand: sets of elements, multiplied member by member."""
    cosets = [frozenset(group.table[i][x] for x in s) for i in group.all]

    def product(a, b):
        return frozenset(group.table[i][j] for i in a for j in b)

    return Defined(cosets[0], [cosets[g] for g in group.generators], product, lambda coset: (min(coset),))


def defined_pairs(group, other):
    def product(a, b):
        return group.table[a[0]][b[0]], other.table[a[1]][b[1]]

    generators = [(g, 0) for g in group.generators] + [(0, h) for h in other.generators]
    return Defined((0, 0), generators, product, lambda pair: (pair[0] * other.size + pair[1],))


DEFINED = {group: defined_shuffles(*GROUPS[group]) for group in GROUPS}
for made_group, (how, first_group, second) in RECIPES.items():
    if how == "over":
        normal_one = DEFINED[first_group].normal_of_size(second)
        DEFINED[made_group] = defined_quotient(DEFINED[first_group], normal_one)
    else:
        DEFINED[made_group] = defined_pairs(DEFINED[first_group], DEFINED[second])


def calls_for(group, k):
    """The calls that bring the group to place k; they leave the places below k as they are."""
    if group in GROUPS:
        return [make(k, *GROUPS[group])]
    how, first, second = RECIPES[group]
    if how == "over":
        return calls_for(first, k) + [call("over", k, k, DEFINED[first].normal_of_size(second))]
    return calls_for(first, k) + calls_for(second, k + 1) + [call("pairs", k, k, k + 1)]


def least_that_has(subgroups, s):
    """What all those subgroups that have s have in common."""
    common = None
    for subgroup in subgroups:
        if set(s) <= set(subgroup):
            common = set(subgroup) if common is None else common & set(subgroup)
    return sorted(common)
