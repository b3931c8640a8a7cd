"""Writes calls as numbers, parts what is answered, and knows groups by their definitions alone."""

from itertools import product as rows_of

from shufflegroups.groups import answers

GREATEST = 4294967295

NUMBERS = {
    "make": 1, "size": 2, "name": 3, "number": 4, "word": 5, "times": 6, "inverse": 7,
    "power": 8, "order": 9, "made": 10, "kind": 11, "normal": 12, "central": 13,
}

# Groups by how many places and which shuffles; the names tell which group it is.
GROUPS = {
    "one": (4, []),
    "two": (2, [(1, 0)]),
    "three": (3, [(1, 2, 0)]),
    "four": (4, [(0, 1, 2, 3), (1, 2, 3, 0)]),
    "six": (5, [(1, 0, 3, 4, 2)]),
    "klein": (4, [(1, 0, 3, 2), (2, 3, 0, 1)]),
    "eight": (6, [(1, 0, 2, 3, 4, 5), (0, 1, 3, 2, 4, 5), (0, 1, 2, 3, 5, 4)]),
    "triangle": (3, [(1, 0, 2), (1, 2, 0)]),
    "square": (4, [(1, 2, 3, 0), (1, 0, 3, 2)]),
    "tetrahedron": (4, [(1, 2, 0, 3), (0, 2, 3, 1)]),
    "cube": (4, [(1, 2, 3, 0), (1, 0, 2, 3)]),
    "icosahedron": (5, [(1, 2, 0, 3, 4), (1, 2, 3, 4, 0)]),
}


def call(what, *given):
    numbers = [NUMBERS[what]]
    for value in given:
        if isinstance(value, int):
            numbers.append(value)
        else:
            numbers.append(len(value))
            numbers.extend(value)
    return numbers


def make(k, n, shuffles):
    return call("make", k, n, [x for shuffle in shuffles for x in shuffle])


def parted(told):
    parts = []
    at = 0
    while at < len(told):
        parts.append(told[at + 1:at + 1 + told[at]])
        at += 1 + told[at]
    assert at == len(told), "the counts do not come out even"
    return parts


def run(*calls):
    """What each of the calls answers, all of them in one list on new places."""
    told = parted(answers([x for numbers in calls for x in numbers]))
    assert len(told) == len(calls), "not one answer for each call"
    return told


def ask(group, what, rows):
    """What each row's call answers about the group of that name, at place 0, 30 calls at a time."""
    told = []
    for start in range(0, len(rows), 29):
        asked = [call(what, 0, *row) for row in rows[start:start + 29]]
        told.extend(run(make(0, *GROUPS[group]), *asked)[1:])
    return told


def snapshot(k, size):
    """Up to 29 calls that tell the group of that size, at place k, from others."""
    calls = [call("size", k), call("made", k, []), call("central", k, [])]
    for i in range(min(size, 13)):
        calls.append(call("name", k, i))
        calls.append(call("word", k, i))
    return calls


def carried_out(shuffles, n):
    """The shuffle that shuffles make from left to right, found by moving n things about."""
    things = list(range(n))
    for shuffle in shuffles:
        moved = [None] * n
        for x in range(n):
            moved[shuffle[x]] = things[x]
        things = moved
    return tuple(things.index(x) for x in range(n))


class Defined:
    """A group by the document's definitions, slow and plain."""

    def __init__(self, n, shuffles):
        self.words = {}
        length = 0
        found = True
        while found:
            found = False
            for word in rows_of(range(len(shuffles)), repeat=length):
                name = carried_out([shuffles[g] for g in word], n)
                if name not in self.words:
                    self.words[name] = list(word)
                    found = True
            length += 1
        self.names = list(self.words)
        self.size = len(self.names)
        self.all = list(range(self.size))
        self.table = [
            [self.names.index(carried_out([a, b], n)) for b in self.names] for a in self.names
        ]
        self.inverses = [row.index(0) for row in self.table]

    def turned(self, i, j):
        return self.table[self.table[j][i]][self.inverses[j]]

    def is_subgroup(self, s):
        return len(s) > 0 and all(self.table[i][j] in s for i in s for j in s)

    def is_normal(self, s):
        return self.is_subgroup(s) and all(self.turned(i, j) in s for i in s for j in self.all)

    def subsets(self):
        for bits in range(2 ** self.size):
            yield [i for i in self.all if bits >> i & 1]

    def central(self, s):
        return [i for i in self.all if all(self.table[i][j] == self.table[j][i] for j in s)]


DEFINED = {group: Defined(*GROUPS[group]) for group in GROUPS}


def least_that_has(subgroups, s):
    """What all those subgroups that have s have in common."""
    common = None
    for subgroup in subgroups:
        if set(s) <= set(subgroup):
            common = set(subgroup) if common is None else common & set(subgroup)
    return sorted(common)
