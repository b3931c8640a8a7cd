"""Points 10 to 13: made, kind, normal, central."""

import unittest

from tests.helper import DEFINED, ask, counted, least_that_has

# Small enough for going through all of their sets.
SMALL = [group for group in DEFINED if DEFINED[group].size <= 9]
GREATER = [group for group in DEFINED if DEFINED[group].size > 9]


class Edges(unittest.TestCase):
    def test_empty_set(self):
        for group, defined in DEFINED.items():
            self.assertEqual(ask(group, "made", [([],)]), [[1, 0]])
            self.assertEqual(ask(group, "kind", [([],)]), [[0]])
            self.assertEqual(ask(group, "normal", [([],)]), [[1, 0]])
            self.assertEqual(ask(group, "central", [([],)]), [counted(defined.all)])

    def test_the_one_alone(self):
        for group, defined in DEFINED.items():
            self.assertEqual(ask(group, "made", [([0],)]), [[1, 0]])
            self.assertEqual(ask(group, "kind", [([0],)]), [[2]])
            self.assertEqual(ask(group, "normal", [([0],)]), [[1, 0]])
            self.assertEqual(ask(group, "central", [([0],)]), [counted(defined.all)])

    def test_the_whole_group(self):
        for group, defined in DEFINED.items():
            whole = [(defined.all,)]
            self.assertEqual(ask(group, "made", whole), [counted(defined.all)])
            self.assertEqual(ask(group, "kind", whole), [[2]])
            self.assertEqual(ask(group, "normal", whole), [counted(defined.all)])
            self.assertEqual(ask(group, "central", whole), [counted(defined.central(defined.all))])

    def test_by_hand(self):
        # triangle: 1, 3 and 4 are swaps, 2 and 5 turns.
        sets = [([1],), ([2],), ([0, 1],), ([0, 2, 5],), ([1, 2],), ([0, 1, 3],), ([0, 2],)]
        self.assertEqual(
            ask("triangle", "made", sets),
            [[2, 0, 1], [3, 0, 2, 5], [2, 0, 1], [3, 0, 2, 5]] + [counted(range(6))] * 2 + [[3, 0, 2, 5]],
        )
        self.assertEqual(ask("triangle", "kind", sets), [[0], [0], [1], [2], [0], [0], [0]])
        self.assertEqual(ask("triangle", "normal", sets[:2]), [counted(range(6)), [3, 0, 2, 5]])
        self.assertEqual(ask("triangle", "central", sets[:2]), [[2, 0, 1], [3, 0, 2, 5]])
        self.assertEqual(ask("triangle", "central", [([1, 2],)]), [[1, 0]])


class AllSetsOfSmallGroups(unittest.TestCase):
    def test_made(self):
        for group in SMALL:
            sets = list(DEFINED[group].subsets())
            subgroups = [s for s in sets if DEFINED[group].is_subgroup(s)]
            self.assertEqual(
                ask(group, "made", [(s,) for s in sets]), [counted(least_that_has(subgroups, s)) for s in sets]
            )

    def test_kind(self):
        seen = {}
        for group in SMALL:
            defined = DEFINED[group]
            sets = list(defined.subsets())
            kinds = [[int(defined.is_subgroup(s)) + int(defined.is_normal(s))] for s in sets]
            self.assertEqual(ask(group, "kind", [(s,) for s in sets]), kinds)
            for answer in kinds:
                seen[answer[0]] = True
        self.assertEqual(sorted(seen), [0, 1, 2])

    def test_normal(self):
        for group in SMALL:
            sets = list(DEFINED[group].subsets())
            normal = [s for s in sets if DEFINED[group].is_normal(s)]
            self.assertEqual(
                ask(group, "normal", [(s,) for s in sets]), [counted(least_that_has(normal, s)) for s in sets]
            )

    def test_central(self):
        for group in SMALL:
            sets = list(DEFINED[group].subsets())
            self.assertEqual(
                ask(group, "central", [(s,) for s in sets]), [counted(DEFINED[group].central(s)) for s in sets]
            )


class GreaterGroups(unittest.TestCase):
    def one_and_two(self, defined):
        return [[i] for i in defined.all] + [[i, i + 1] for i in defined.all[:-1]]

    def test_made_is_a_subgroup_that_has_the_set(self):
        for group in GREATER:
            defined = DEFINED[group]
            sets = self.one_and_two(defined)
            for s, told in zip(sets, ask(group, "made", [(s,) for s in sets])):
                self.assertEqual(told, counted(sorted(set(told[1:]))))
                self.assertTrue(set(s) <= set(told[1:]))
                self.assertTrue(defined.is_subgroup(told[1:]))
                self.assertEqual(defined.size % told[0], 0)
                self.assertEqual(told[1:], defined.closed(s))

    def test_made_of_one_element_is_its_powers(self):
        for group in GREATER:
            defined = DEFINED[group]
            for i, told in enumerate(ask(group, "made", [([i],) for i in defined.all])):
                powers = [0]
                while defined.table[powers[-1]][i] != 0:
                    powers.append(defined.table[powers[-1]][i])
                self.assertEqual(told, counted(sorted(powers)))

    def test_normal_ones_of_the_tetrahedron_and_the_cube(self):
        for group, sizes in (("tetrahedron", [1, 4, 12]), ("cube", [1, 4, 12, 24]), ("icosahedron", [1, 60])):
            defined = DEFINED[group]
            told = ask(group, "normal", [([i],) for i in defined.all])
            self.assertEqual(sorted(set(row[0] for row in told)), sizes)
            for i, row in enumerate(told):
                self.assertTrue(i in row[1:])
                self.assertTrue(defined.is_normal(row[1:]))

    def test_kind_and_central(self):
        for group in GREATER:
            defined = DEFINED[group]
            sets = self.one_and_two(defined)
            sets += [row[1:] for row in ask(group, "made", [(s,) for s in sets])]
            kinds = [[int(defined.is_subgroup(s)) + int(defined.is_normal(s))] for s in sets]
            self.assertEqual(ask(group, "kind", [(s,) for s in sets]), kinds)
            self.assertEqual(ask(group, "central", [(s,) for s in sets]), [counted(defined.central(s)) for s in sets])


if __name__ == "__main__":
    unittest.main()
