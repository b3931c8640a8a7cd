"""Points 18 to 21: series, prime, shape, simple."""

import unittest

from tests.helper import DEFINED, GREATEST, after, ask, call, counted, make, run

PRIMES = (2, 3, 5, 7, 11, 13, 17, 19, 23, 29, 31, 37, 41, 43, 47, 53, 59)


class Series(unittest.TestCase):
    def test_by_hand(self):
        rows = {
            "one": ([1], [1]),
            "two": ([2, 1], [2, 1]),
            "klein": ([4, 1], [4, 1]),
            "triangle": ([6, 3, 1], [6, 3]),
            "square": ([8, 2, 1], [8, 2, 1]),
            "hexagon": ([12, 3, 1], [12, 3]),
            "tetrahedron": ([12, 4, 1], [12, 4]),
            "twenty": ([20, 5, 1], [20, 5]),
            "cube": ([24, 12, 4, 1], [24, 12]),
            "icosahedron": ([60], [60]),
            "cube over four": ([6, 3, 1], [6, 3]),
            "tetrahedron and five": ([60, 4, 1], [60, 4]),
        }
        for group, (plain, lower) in rows.items():
            with self.subTest(group=group):
                told = ask(group, "series", [(0,), (1,), (2,), (GREATEST,)])
                self.assertEqual(told, [counted(plain)] + [counted(lower)] * 3)

    def test_by_definition(self):
        for group, defined in DEFINED.items():
            told = ask(group, "series", [(0,), (1,), (GREATEST,)])
            plain = counted([len(s) for s in defined.row_of_mixed(False)])
            lower = counted([len(s) for s in defined.row_of_mixed(True)])
            self.assertEqual(told, [plain, lower, lower])


class Prime(unittest.TestCase):
    def test_by_hand(self):
        # triangle: 1, 3 and 4 are swaps, 2 and 5 turns.
        told = ask("triangle", "prime", [(2,), (3,), (5,), (59,)])
        self.assertEqual(told, [[2, 0, 1], [3, 0, 2, 5], [1, 0], [1, 0]])

    def test_sizes(self):
        sizes = {"one": (1, 1, 1), "eight": (8, 1, 1), "six": (2, 3, 1), "cube": (8, 3, 1), "icosahedron": (4, 3, 5)}
        for group, wanted in sizes.items():
            self.assertEqual([row[0] for row in ask(group, "prime", [(2,), (3,), (5,)])], list(wanted))

    def test_by_definition(self):
        for group, defined in DEFINED.items():
            told = ask(group, "prime", [(p,) for p in PRIMES])
            for p, answer in zip(PRIMES, told):
                self.assertEqual(answer, counted(defined.prime(p)), (group, p))

    def test_least_as_a_number_is_not_least_otherwise(self):
        # Here another subgroup of that size comes first by the first place that differs.
        cases = (
            ("hexagon", 2, [0, 5, 6, 7]), ("cube", 2, [0, 2, 3, 7, 9, 15, 17, 23]), ("cube", 3, [0, 5, 11]),
            ("icosahedron", 2, [0, 33, 51, 53]),
        )
        for group, p, least in cases:
            self.assertEqual(ask(group, "prime", [(p,)]), [counted(least)])
            sized = [s for s in DEFINED[group].subgroups() if len(s) == len(least)]
            self.assertGreater(len(sized), 1)
            self.assertNotEqual(min(sized), least)

    def test_no_prime_below_sixty(self):
        wrong = [p for p in range(62) if p not in PRIMES] + [67, 97, 121, 255, 65537, 4294967291, GREATEST]
        self.assertTrue({0, 1, 4, 60, 61} <= set(wrong))
        for group in ("one", "triangle", "icosahedron", "cube over four", "two and triangle and five"):
            self.assertEqual(ask(group, "prime", [(p,) for p in wrong]), [[-2]] * len(wrong))


class Shape(unittest.TestCase):
    def test_by_hand(self):
        shapes = {
            "one": [], "two": [2], "three": [3], "four": [4], "five": [5], "six": [6], "klein": [2, 2],
            "eight": [2, 2, 2], "four and two": [2, 4], "nine": [3, 3], "triangle": [2], "alike": [2],
            "square": [2, 2], "hexagon": [2, 2], "tetrahedron": [3], "twenty": [4], "cube": [2],
            "triangles": [2, 2], "icosahedron": [], "triangle over all": [], "klein and klein": [2, 2, 2, 2],
            "six and six": [6, 6], "tetrahedron and five": [15], "triangle and five": [10],
            "two and triangle and five": [2, 10], "triangle and four": [2, 4],
        }
        for group, shape in shapes.items():
            with self.subTest(group=group):
                self.assertEqual(ask(group, "shape", [()]), [counted(shape)])

    def test_products_of_cyclic_groups(self):
        turns = {
            2: (2, [(1, 0)]), 3: (3, [(1, 2, 0)]), 4: (4, [(1, 2, 3, 0)]), 5: (5, [(1, 2, 3, 4, 0)]),
            6: (5, [(1, 0, 3, 4, 2)]),
        }
        shapes = {
            (2, 3): [6], (2, 4): [2, 4], (4, 6): [2, 12], (3, 6): [3, 6], (6, 4): [2, 12], (5, 6): [30], (4, 4): [4, 4],
            (2, 2, 4): [2, 2, 4], (2, 6, 3): [6, 6], (2, 2, 3): [2, 6], (3, 4, 5): [60], (2, 6, 4): [2, 2, 12],
            (2, 5, 6): [2, 30], (2, 3, 2, 5): [2, 30], (2, 2, 2, 6): [2, 2, 2, 6], (3, 2, 4, 2): [2, 2, 12],
        }
        for sizes, shape in shapes.items():
            calls = [make(0, *turns[sizes[0]])]
            for n in sizes[1:]:
                calls += [make(1, *turns[n]), call("pairs", 0, 0, 1)]
            self.assertEqual(run(*calls, call("shape", 0))[-1], counted(shape), sizes)

    def test_by_definition(self):
        for group, defined in DEFINED.items():
            self.assertEqual(ask(group, "shape", [()]), [counted(defined.shape())], group)


class Simple(unittest.TestCase):
    def test_by_hand(self):
        for group in DEFINED:
            is_so = group in ("two", "three", "five", "icosahedron", "cube over four over three", "two and one")
            self.assertEqual(ask(group, "simple", [()]), [[int(is_so)]], group)

    def test_by_definition(self):
        for group, defined in DEFINED.items():
            self.assertEqual(ask(group, "simple", [()]), [[int(defined.is_simple())]], group)

    def test_one_element(self):
        for n in range(1, 7):
            told = after([make(0, n, [list(range(n))])], [call("simple", 0), call("shape", 0), call("series", 0, 0)])
            self.assertEqual(told, [[0], [0], [1, 1]])


if __name__ == "__main__":
    unittest.main()
