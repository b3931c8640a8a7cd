"""Points 22 and 23: over, pairs; and what is in the groups that they make."""

import unittest

from tests.helper import (
    DEFINED, GROUPS, after, ask, call, calls_for, counted, defined_pairs, defined_quotient, make, run, snapshot,
)


class Checked(unittest.TestCase):
    def check_group(self, first, k, defined):
        """That the group which the first calls leave at place k has these names, words and products."""
        self.assertEqual(after(first, [call("size", k)]), [[defined.size]])
        names = after(first, [call("name", k, i) for i in defined.all])
        self.assertEqual(names, [counted(name) for name in defined.names])
        numbers = after(first, [call("number", k, name) for name in defined.names])
        self.assertEqual(numbers, [[i] for i in defined.all])
        words = after(first, [call("word", k, i) for i in defined.all])
        self.assertEqual(words, [counted(word) for word in defined.words])
        # Where products by generators are right, all are.
        pairs = [(i, j) for i in defined.all for j in sorted(set(defined.generators))]
        products = after(first, [call("times", k, i, j) for i, j in pairs])
        self.assertEqual(products, [[defined.table[i][j]] for i, j in pairs])


class Over(Checked):
    def test_by_hand(self):
        # square: the turn twice is 3; its cosets are 0 with 3, and 1, 2, 4 with others.
        told = run(
            make(0, *GROUPS["square"]), call("word", 0, 3), call("cosets", 0, [0, 3]), call("over", 1, 0, [0, 3]),
            *[call("name", 1, i) for i in range(4)], call("word", 1, 3), call("times", 1, 1, 1),
            call("number", 1, [4]), call("number", 1, [3]), call("number", 1, [0, 3]), call("number", 1, []),
        )
        self.assertEqual(told[1], [2, 0, 0])
        self.assertEqual(told[2], [4, 0, 1, 2, 0, 4, 4, 1, 2])
        self.assertEqual(told[3:8], [[4], [1, 0], [1, 1], [1, 2], [1, 4]])
        self.assertEqual(told[8:], [[2, 0, 1], [0], [3], [-2], [-2], [-2]])

    def test_numbers_by_words_and_not_by_names(self):
        # The alike group over its turns: its first three generators are in the one's coset.
        told = run(make(0, *GROUPS["alike"]), call("normal", 0, [1]), call("over", 0, 0, [0, 1, 3]), call("word", 0, 1))
        self.assertEqual(told, [[6], [3, 0, 1, 3], [2], [1, 3]])
        out_of_order = [group for group in DEFINED if DEFINED[group].names != sorted(DEFINED[group].names)]
        self.assertTrue([group for group in out_of_order if " over " in group])

    def test_by_the_one_alone(self):
        for group, defined in DEFINED.items():
            first = calls_for(group, 0) + [call("over", 2, 0, [0])]
            self.assertEqual(after(first, [call("name", 2, i) for i in defined.all]), [[1, i] for i in defined.all])
            self.check_group(first, 2, defined_quotient(defined, [0]))

    def test_by_the_whole_group(self):
        for group, defined in DEFINED.items():
            told = run(
                *calls_for(group, 0), call("over", 1, 0, defined.all), call("size", 1), call("name", 1, 0),
                call("word", 1, 0), call("name", 1, 1), call("size", 0),
            )
            self.assertEqual(told[-6:], [[1], [1], [1, 0], [0], [-1], [defined.size]])

    def test_by_all_normal_subgroups(self):
        between = 0
        for group in DEFINED:
            defined = DEFINED[group]
            for s in defined.subgroups():
                if defined.is_normal(s) and defined.size <= 24:
                    first = calls_for(group, 0) + [call("over", 0, 0, s)]
                    self.check_group(first, 0, defined_quotient(defined, s))
                    between += 1 < len(s) < defined.size
        self.assertGreater(between, 50)

    def test_greater_groups(self):
        cases = (("triangles", 9), ("six and six", 3), ("tetrahedron and five", 4), ("triangle and five", 5))
        for group, size in cases:
            s = DEFINED[group].normal_of_size(size)
            self.check_group(calls_for(group, 0) + [call("over", 1, 0, s)], 1, defined_quotient(DEFINED[group], s))

    def test_into_another_place_and_into_its_own(self):
        s = DEFINED["cube"].normal_of_size(4)
        cube = make(1, *GROUPS["cube"])
        before = run(cube, *snapshot(1, 24))[1:]
        quotient = run(cube, call("over", 1, 1, s), *snapshot(1, 6))[2:]
        self.assertNotEqual(before, quotient)
        for d in (0, 2):
            first = [cube, call("over", d, 1, s)]
            self.assertEqual(after(first, snapshot(1, 24)), before)
            self.assertEqual(after(first, snapshot(d, 6)), quotient)
            filled = [make(d, *GROUPS["nine"])] + first
            self.assertEqual(after(filled, snapshot(d, 6)), quotient)

    def test_quotient_of_a_quotient(self):
        cube = DEFINED["cube"]
        third = defined_quotient(cube, cube.normal_of_size(4))
        first = calls_for("cube", 0) + [call("over", 1, 0, cube.normal_of_size(4))]
        first.append(call("over", 2, 1, third.normal_of_size(3)))
        self.check_group(first, 2, defined_quotient(third, third.normal_of_size(3)))
        self.assertEqual(after(first, [call("size", k) for k in range(3)]), [[24], [6], [2]])

    def test_not_normal(self):
        for group in DEFINED:
            defined = DEFINED[group]
            if defined.size <= 6:
                sets = [s for s in defined.subsets() if not defined.is_normal(s)]
            else:
                sets = [[], [1], defined.all[1:]] + [s for s in defined.subgroups() if not defined.is_normal(s)]
            self.assertIn([], sets)
            for d in range(2):
                told = after(calls_for(group, 0), [call("over", d, 0, s) for s in sets])
                self.assertEqual(told, [[-2]] * len(sets))

    def test_refused_nothing_changes(self):
        first = [make(0, *GROUPS["triangle"]), make(1, *GROUPS["klein"])]
        before = run(*first, *snapshot(0, 6))[2:], run(*first, *snapshot(1, 4))[2:]
        for refused in (call("over", 1, 0, [0, 1]), call("over", 0, 0, []), call("over", 1, 0, [1, 0])):
            then = first + [refused]
            self.assertLess(run(*then)[2][0], 0)
            self.assertEqual(before, (run(*then, *snapshot(0, 6))[3:], run(*then, *snapshot(1, 4))[3:]))
            self.assertEqual(run(*then, call("size", 2))[3], [-1])


class Pairs(Checked):
    def test_by_hand(self):
        told = run(
            make(0, *GROUPS["two"]), make(1, *GROUPS["three"]), call("pairs", 2, 0, 1),
            *[call("name", 2, i) for i in range(6)], *[call("word", 2, i) for i in range(6)],
            call("number", 2, [5]), call("number", 2, [6]), call("number", 2, [1, 2]), call("times", 2, 1, 2),
        )
        # 1 with 0 is named 3, 0 with 1 is named 1.
        self.assertEqual(told[:3], [[2], [3], [6]])
        self.assertEqual(told[3:9], [[1, 0], [1, 3], [1, 1], [1, 4], [1, 2], [1, 5]])
        self.assertEqual(told[9:15], [[0], [1, 0], [1, 1], [2, 0, 1], [2, 1, 1], [3, 0, 1, 1]])
        self.assertEqual(told[15:], [[5], [-2], [-2], [3]])

    def test_by_definition(self):
        pairs = (
            ("one", "one"), ("one", "triangle"), ("triangle", "one"), ("two", "triangle"), ("triangle", "two"),
            ("square", "three"), ("klein", "four"), ("square", "six"), ("five", "tetrahedron"), ("twenty", "three"),
            ("triangle over all", "square"), ("cube over four", "square over two"), ("alike", "one"), ("cube", "two"),
            ("two and one", "icosahedron"), ("klein and two", "five"), ("icosahedron", "one"), ("hexagon", "five"),
        )
        for group, other in pairs:
            size = DEFINED[group].size * DEFINED[other].size
            first = calls_for(group, 0) + calls_for(other, 1)
            if size > 60:
                self.assertEqual(after(first, [call("pairs", 2, 0, 1)]), [[-3]])
            else:
                first = first + [call("pairs", 2, 0, 1)]
                self.check_group(first, 2, defined_pairs(DEFINED[group], DEFINED[other]))

    def test_of_one_place_with_itself(self):
        for group in ("one", "two", "three", "four", "klein", "triangle", "square over two", "five", "six"):
            defined = defined_pairs(DEFINED[group], DEFINED[group])
            for d in range(3):
                self.check_group(calls_for(group, 0) + [call("pairs", d, 0, 0)], d, defined)

    def test_into_one_of_both_and_into_the_third(self):
        first = [make(0, *GROUPS["square"]), make(1, *GROUPS["three"])]
        apart = [run(*first, *snapshot(0, 8))[2:], run(*first, *snapshot(1, 3))[2:]]
        product = defined_pairs(DEFINED["square"], DEFINED["three"])
        for d in range(3):
            then = first + [call("pairs", d, 0, 1)]
            self.check_group(then, d, product)
            if d != 0:
                self.assertEqual(run(*then, *snapshot(0, 8))[3:], apart[0])
            if d != 1:
                self.assertEqual(run(*then, *snapshot(1, 3))[3:], apart[1])

    def test_just_sixty(self):
        for group, other in (("icosahedron", "one"), ("twenty", "three"), ("five", "tetrahedron"), ("hexagon", "five")):
            told = run(*calls_for(group, 0), *calls_for(other, 1), call("pairs", 2, 0, 1), call("pairs", 2, 1, 0))
            self.assertEqual(told[-2:], [[60], [60]])
        self.assertEqual(run(*calls_for("two and triangle and five", 0))[-1], [60])

    def test_more_than_sixty(self):
        pairs = (
            ("icosahedron", "two"), ("square", "square"), ("cube", "three"), ("six", "tetrahedron"),
            ("cube", "cube"), ("icosahedron", "icosahedron"), ("triangles", "two"), ("twenty", "four"),
        )
        for group, other in pairs:
            self.assertGreater(DEFINED[group].size * DEFINED[other].size, 60)
            asked = [call("pairs", d, k, l) for d in range(3) for k, l in ((0, 1), (1, 0))]
            self.assertEqual(after(calls_for(group, 0) + calls_for(other, 1), asked), [[-3]] * 6)
        self.assertEqual(ask("square", "pairs", [(0, 0)]), [[-3]])

    def test_just_four_generators_and_more(self):
        idle = (1, [(0,)] * 4)
        told = run(make(0, *GROUPS["klein"]), call("pairs", 1, 0, 0), call("word", 1, 15))
        self.assertEqual(told[1:], [[16], [4, 0, 1, 2, 3]])
        told = run(make(0, *idle), make(1, *GROUPS["one"]), make(2, *GROUPS["two"]), call("pairs", 0, 0, 1))
        self.assertEqual(told[-1], [1])
        self.assertEqual(run(make(0, *idle), make(2, *GROUPS["two"]), call("pairs", 0, 0, 2))[-1], [-3])
        self.assertEqual(run(make(0, *idle), make(2, *GROUPS["two"]), call("pairs", 0, 2, 0))[-1], [-3])
        self.assertEqual(run(make(0, *idle), call("pairs", 0, 0, 0))[-1], [-3])
        for group, other in (("eight", "klein"), ("alike", "two"), ("klein and two", "klein"), ("eight", "four")):
            told = run(*calls_for(group, 0), *calls_for(other, 1), call("pairs", 2, 0, 1), call("pairs", 2, 1, 0))
            self.assertEqual(told[-2:], [[-3], [-3]])

    def test_a_quotient_keeps_how_many_generators(self):
        first = calls_for("triangle over all", 0) + calls_for("eight", 1) + calls_for("klein", 2)
        told = run(*first, call("pairs", 2, 0, 2), call("pairs", 0, 0, 1))
        self.assertEqual(told[-2:], [[4], [-3]])

    def test_products_of_quotients(self):
        first = calls_for("cube over four", 0) + calls_for("square over two", 1)
        defined = defined_pairs(DEFINED["square over two"], DEFINED["cube over four"])
        self.check_group(first + [call("pairs", 0, 1, 0)], 0, defined)

    def test_quotients_of_products(self):
        defined = DEFINED["triangle and four"]
        for s in defined.subgroups():
            if defined.is_normal(s):
                first = calls_for("triangle and four", 0) + [call("over", 2, 0, s)]
                self.check_group(first, 2, defined_quotient(defined, s))

    def test_refused_nothing_changes(self):
        first = [make(0, *GROUPS["square"]), make(1, *GROUPS["eight"])]
        before = run(*first, *snapshot(0, 8))[2:], run(*first, *snapshot(1, 8))[2:]
        for d in range(3):
            for k, l in ((0, 0), (0, 1), (1, 0), (1, 1), (2, 0), (0, 2)):
                then = first + [call("pairs", d, k, l)]
                self.assertEqual(len(run(*then)[2]), 1)
                self.assertLess(run(*then)[2][0], 0)
                self.assertEqual(before, (run(*then, *snapshot(0, 8))[3:], run(*then, *snapshot(1, 8))[3:]))
                self.assertEqual(run(*then, call("size", 2))[3], [-1])


if __name__ == "__main__":
    unittest.main()
