"""Points 14 to 17: stay, mixed, classes, cosets."""

import unittest

from tests.helper import DEFINED, ask, counted

SMALL = [group for group in DEFINED if DEFINED[group].size <= 9]
GREATER = [group for group in DEFINED if DEFINED[group].size > 9]


def some_sets(defined):
    """The empty set, single elements, neighbours, all but one, and all subgroups."""
    sets = [[], defined.all, defined.all[1:], defined.all[:-1]]
    sets += [[i] for i in defined.all] + [[i, i + 1] for i in defined.all[:-1]]
    return sets + defined.subgroups()


def sets_of(group):
    return list(DEFINED[group].subsets()) if group in SMALL else some_sets(DEFINED[group])


class Stay(unittest.TestCase):
    def test_by_hand(self):
        # triangle: 1, 3 and 4 are swaps, 2 and 5 turns.
        sets = [([1],), ([1, 3],), ([1, 2],), ([2, 5],), ([0, 1],), ([1, 3, 4],)]
        whole = counted(range(6))
        self.assertEqual(ask("triangle", "stay", sets), [[2, 0, 1], [2, 0, 4], [1, 0], whole, [2, 0, 1], whole])

    def test_empty_set_and_whole_group(self):
        for group, defined in DEFINED.items():
            self.assertEqual(ask(group, "stay", [([],), (defined.all,)]), [counted(defined.all)] * 2)

    def test_no_subgroup(self):
        # The class of the swaps stays whole, but some of its swaps are taken to others.
        self.assertEqual(ask("triangle", "kind", [([1, 3, 4],)]), [[0]])
        self.assertEqual(ask("triangle", "central", [([1, 3, 4],)]), [[1, 0]])

    def test_by_definition(self):
        for group, defined in DEFINED.items():
            sets = sets_of(group)
            told = ask(group, "stay", [(s,) for s in sets])
            self.assertEqual(told, [counted(defined.staying(s)) for s in sets])


class Mixed(unittest.TestCase):
    def test_by_hand(self):
        given = [([1], [2]), ([2], [1]), ([2], [5]), ([1], [1]), (list(range(6)), list(range(6))), ([0, 1], [0, 3])]
        turns = [3, 0, 2, 5]
        self.assertEqual(ask("triangle", "mixed", given), [turns, turns, [1, 0], [1, 0], turns, turns])

    def test_empty_sets(self):
        for group, defined in DEFINED.items():
            given = [([], []), ([], defined.all), (defined.all, []), ([0], defined.all), (defined.all, [0])]
            self.assertEqual(ask(group, "mixed", given), [[1, 0]] * 5)

    def test_whole_with_itself(self):
        sizes = {
            "one": 1, "six": 1, "klein": 1, "triangle": 3, "square": 2, "tetrahedron": 4, "twenty": 5, "cube": 12,
            "icosahedron": 60, "triangle and five": 3, "tetrahedron and five": 4, "cube over four": 3,
        }
        for group, size in sizes.items():
            whole = DEFINED[group].all
            self.assertEqual(ask(group, "mixed", [(whole, whole)])[0][0], size)

    def test_all_pairs_of_sets(self):
        for group in ("triangle", "cube over four"):
            defined = DEFINED[group]
            given = [(s, t) for s in defined.subsets() for t in defined.subsets()]
            self.assertEqual(ask(group, "mixed", given), [counted(defined.mixed(s, t)) for s, t in given])

    def test_all_pairs_of_elements(self):
        different = 0
        for group in ("square", "tetrahedron", "twenty", "cube", "triangle and four"):
            defined = DEFINED[group]
            given = [([i], [j]) for i in defined.all for j in defined.all]
            told = ask(group, "mixed", given)
            self.assertEqual(told, [counted(defined.mixed(s, t)) for s, t in given])
            # i times j times i's inverse times j's inverse makes another subgroup here and there.
            for (s, t), answer in zip(given, told):
                backwards = defined.mixed([defined.inverses[s[0]]], [defined.inverses[t[0]]])
                different += answer != counted(backwards)
        self.assertGreater(different, 0)

    def test_different_sets(self):
        for group in GREATER:
            defined = DEFINED[group]
            sets = some_sets(defined)
            given = [(sets[x], sets[x * 7 % len(sets)]) for x in range(0, len(sets), 3)]
            self.assertEqual(ask(group, "mixed", given), [counted(defined.mixed(s, t)) for s, t in given])


class Classes(unittest.TestCase):
    def test_by_hand(self):
        self.assertEqual(ask("triangle", "classes", [()]), [[3, 0, 1, 2, 1, 1, 2]])
        self.assertEqual(ask("one", "classes", [()]), [[1, 0]])
        self.assertEqual(ask("six", "classes", [()]), [[6, 0, 1, 2, 3, 4, 5]])

    def test_how_many(self):
        counts = {"square": 5, "hexagon": 6, "tetrahedron": 4, "twenty": 5, "cube": 5, "triangles": 9, "icosahedron": 5}
        for group, count in counts.items():
            self.assertEqual(ask(group, "classes", [()])[0][0], count)

    def test_by_definition(self):
        for group, defined in DEFINED.items():
            least = defined.least_in_classes()
            self.assertEqual(ask(group, "classes", [()]), [[len(set(least))] + least])


class Cosets(unittest.TestCase):
    def test_by_hand(self):
        # 2 times 1 is 4, and 3 times 1 is 5; from the other side it would be 3 with 2.
        self.assertEqual(ask("triangle", "cosets", [([0, 1],)]), [[3, 0, 0, 2, 3, 2, 3]])
        self.assertEqual(ask("triangle", "cosets", [([0, 2, 5],)]), [[2, 0, 1, 0, 1, 1, 0]])

    def test_the_one_alone_and_the_whole_group(self):
        for group, defined in DEFINED.items():
            told = ask(group, "cosets", [([0],), (defined.all,)])
            self.assertEqual(told, [[defined.size] + defined.all, [1] + [0] * defined.size])

    def test_all_subgroups(self):
        for group, defined in DEFINED.items():
            told = ask(group, "cosets", [(s,) for s in defined.subgroups()])
            for s, answer in zip(defined.subgroups(), told):
                least = defined.least_in_cosets(s)
                self.assertEqual(answer, [len(set(least))] + least)
                self.assertEqual(answer[0] * len(s), defined.size)

    def test_no_subgroup(self):
        for group in SMALL:
            sets = [s for s in DEFINED[group].subsets() if not DEFINED[group].is_subgroup(s)]
            self.assertIn([], sets)
            self.assertEqual(ask(group, "cosets", [(s,) for s in sets]), [[-2]] * len(sets))
        for group in GREATER:
            sets = [([],), ([1],), (DEFINED[group].all[1:],), (DEFINED[group].all[:-1],)]
            self.assertEqual(ask(group, "cosets", sets), [[-2]] * 4)


if __name__ == "__main__":
    unittest.main()
