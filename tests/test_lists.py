"""Whole lists of calls, held against places that know their groups by definition."""

import unittest
from random import Random

from shufflegroups.groups import answers
from tests.helper import (
    DEFINED, GREATEST, GROUPS, NUMBERS, call, calls_for, counted, defined_pairs, defined_quotient, first_same, make,
    run,
)

TOO_GREAT = (5, [(1, 2, 3, 4, 0), (1, 0, 2, 3, 4)])
PRIMES = (2, 3, 5, 7, 11, 13, 17, 19, 23, 29, 31, 37, 41, 43, 47, 53, 59)
ELEMENTS = {"name": 1, "word": 1, "times": 2, "inverse": 1, "power": 1, "order": 1}


class Places:
    """Answers calls as the document tells, one at a time."""

    def __init__(self):
        self.groups = [None, None, None]

    def answer(self, what, given):
        if what == "make":
            return self.make(*given)
        if what in ("over", "pairs"):
            return self.put(what, *given)
        if what in ("same", "maps"):
            return self.compare(what, *given)
        if not self.has_group(given[0]):
            return [-1]
        group = self.groups[given[0]]
        given = given[1:]
        if any(i >= group.size for i in given[:ELEMENTS.get(what, 0)]):
            return [-1]
        if what != "number" and not all(self.is_set(group, s) for s in given if isinstance(s, list)):
            return [-1]
        return getattr(self, what)(group, *given)

    def has_group(self, k):
        return k < 3 and self.groups[k] is not None

    def is_set(self, group, s):
        return s == sorted(set(s)) and all(i < group.size for i in s)

    def make(self, d, known):
        if d >= 3:
            return [-1]
        if known not in GROUPS:
            return [-3]
        self.groups[d] = DEFINED[known]
        return [DEFINED[known].size]

    def put(self, what, d, k, other):
        if d >= 3 or not self.has_group(k):
            return [-1]
        group = self.groups[k]
        if what == "over":
            if not self.is_set(group, other):
                return [-1]
            if not group.is_normal(other):
                return [-2]
            self.groups[d] = defined_quotient(group, other)
        else:
            if not self.has_group(other):
                return [-1]
            second = self.groups[other]
            if group.size * second.size > 60 or len(group.generators) + len(second.generators) > 4:
                return [-3]
            self.groups[d] = defined_pairs(group, second)
        return [self.groups[d].size]

    def compare(self, what, k, l):
        if not self.has_group(k) or not self.has_group(l):
            return [-1]
        group, into = self.groups[k], self.groups[l]
        if into.size ** len(group.generators) > 4096:
            return [-6]
        rows = group.maps(into)
        return [len(rows)] if what == "maps" else first_same(into, [r for r in rows if group.size == into.size])

    def size(self, group):
        return [group.size]

    def name(self, group, i):
        return counted(group.names[i])

    def number(self, group, a):
        return [group.names.index(tuple(a))] if tuple(a) in group.names else [-2]

    def word(self, group, i):
        return counted(group.words[i])

    def times(self, group, i, j):
        return [group.table[i][j]]

    def inverse(self, group, i):
        return [group.inverses[i]]

    def power(self, group, i, n):
        reached = 0
        for _ in range(n % group.size):
            reached = group.table[reached][i]
        return [reached]

    def order(self, group, i):
        return [group.order(i)]

    def made(self, group, s):
        return counted(group.closed(s))

    def kind(self, group, s):
        return [int(group.is_subgroup(s)) + int(group.is_normal(s))]

    def normal(self, group, s):
        return counted(group.closed([group.turned(i, j) for i in s for j in group.all]))

    def central(self, group, s):
        return counted(group.central(s))

    def stay(self, group, s):
        return counted(group.staying(s))

    def mixed(self, group, s, t):
        return counted(group.mixed(s, t))

    def classes(self, group):
        least = group.least_in_classes()
        return [len(set(least))] + least

    def cosets(self, group, s):
        if not group.is_subgroup(s):
            return [-2]
        least = group.least_in_cosets(s)
        return [len(set(least))] + least

    def series(self, group, h):
        return counted([len(s) for s in group.row_of_mixed(h != 0)])

    def prime(self, group, p):
        return counted(group.prime(p)) if p in PRIMES else [-2]

    def shape(self, group):
        return counted(group.shape())

    def simple(self, group):
        return [int(group.is_simple())]


class Chooser:
    """Chooses calls, the same ones for the same seed."""

    def __init__(self, seed):
        self.random = Random(seed)

    def place(self):
        return self.random.choice([0, 0, 0, 0, 1, 1, 1, 2, 2, 2, 3]) if self.random.random() < 0.9 else GREATEST

    def element(self, group):
        if self.random.random() < 0.9:
            return self.random.randrange(group.size)
        return self.random.choice([group.size, GREATEST])

    def row(self, group):
        kind = self.random.random()
        if kind < 0.4:
            return self.random.choice(group.subgroups())
        if kind < 0.7:
            return self.random.choice([s for s in group.subgroups() if group.is_normal(s)])
        if kind < 0.9:
            return sorted(self.random.sample(group.all, self.random.randrange(min(4, group.size + 1))))
        return self.random.choice([[], [0, 0], [group.size], [2, 1], list(range(60)), [0, 255]])

    def given(self, places, what):
        k = self.place()
        group = places.groups[k] if places.has_group(k) else DEFINED["two"]
        if what == "make":
            return [k, self.random.choice(list(GROUPS) + ["too great"])]
        if what == "over":
            return [self.place(), k, self.row(group)]
        if what == "pairs":
            return [self.place(), k, self.place()]
        if what in ("same", "maps"):
            return [k, self.place()]
        if what == "number":
            return [k, list(self.random.choice(group.names)) if self.random.random() < 0.8 else self.row(group)]
        if what in ("made", "kind", "normal", "central", "stay", "cosets"):
            return [k, self.row(group)]
        if what == "mixed":
            return [k, self.row(group), self.row(group)]
        further = {"power": (0, 1, 59, GREATEST), "series": (0, 0, 1, GREATEST), "prime": (0, 1, 2, 2, 3, 3, 5, 7, 60)}
        row = [k] + [self.element(group) for _ in range(ELEMENTS.get(what, 0))]
        return row + ([self.random.choice(further[what])] if what in further else [])

    def calls(self, count):
        """The calls' numbers and, from places of their own, what is to be answered."""
        places = Places()
        numbers, told, used = [], [], []
        for at in range(count):
            what = "make" if at < 2 else self.random.choice(list(NUMBERS) + ["over", "pairs"] * 2)
            given = self.given(places, what)
            told.append(places.answer(what, given))
            used.append(what)
            if what == "make":
                numbers.append(make(given[0], *GROUPS.get(given[1], TOO_GREAT)))
            else:
                numbers.append(call(what, *given))
        return numbers, told, used


class Lists(unittest.TestCase):
    def test_by_definition(self):
        answered = {}
        for seed in range(160):
            numbers, told, used = Chooser(seed).calls(30)
            self.assertEqual(run(*numbers), told, seed)
            for what, answer in zip(used, told):
                if answer[0] >= 0:
                    answered[what] = True
        self.assertEqual(sorted(answered), sorted(NUMBERS))

    def test_a_second_time_and_the_list_as_it_was(self):
        for seed in range(20):
            numbers = [x for row in Chooser(seed).calls(30)[0] for x in row]
            kept = list(numbers)
            first = answers(numbers)
            self.assertEqual(numbers, kept)
            self.assertEqual(answers(numbers), first)
            self.assertEqual(numbers, kept)

    def test_all_calls_on_sixty_elements(self):
        for group in ("icosahedron", "tetrahedron and five", "two and triangle and five"):
            whole = DEFINED[group].all
            asked = [
                ("size", 0), ("name", 0, 59), ("number", 0, DEFINED[group].names[59]), ("word", 0, 59),
                ("times", 0, 59, 58), ("inverse", 0, 59), ("power", 0, 59, GREATEST), ("order", 0, 59),
                ("made", 0, whole), ("kind", 0, whole), ("normal", 0, whole), ("central", 0, whole), ("stay", 0, whole),
                ("mixed", 0, whole, whole), ("classes", 0), ("cosets", 0, whole), ("series", 0, 0), ("prime", 0, 2),
                ("shape", 0), ("simple", 0), ("over", 1, 0, [0]), ("over", 2, 1, whole), ("pairs", 1, 0, 2),
                ("same", 0, 0), ("maps", 0, 0),
            ]
            places = Places()
            places.groups[0] = DEFINED[group]
            # The products of quotients by the whole group would have too many generators here and there.
            wanted = [places.answer(row[0], [list(x) if isinstance(x, tuple) else x for x in row[1:]]) for row in asked]
            first = calls_for(group, 0)
            self.assertEqual(run(*first, *[call(*row) for row in asked])[len(first):], wanted)


if __name__ == "__main__":
    unittest.main()
