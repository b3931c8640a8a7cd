"""Points 2 to 9: size, name, number, word, times, inverse, power, order."""

import unittest

from tests.helper import DEFINED, GREATEST, GROUPS, ask, call, make, run


class Written(unittest.TestCase):
    """Answers that can be told by hand: triangle is made by a swap, 0, and a turn, 1."""

    def ask_triangle(self, *calls):
        return run(make(0, *GROUPS["triangle"]), *calls)[1:]

    def test_names_and_words(self):
        # The turn and then the swap: 0 goes to 1 and on to 0, 1 stays at 2, 2 goes to 0 and on to 1.
        told = self.ask_triangle(*[call("name", 0, i) for i in range(6)])
        self.assertEqual(told, [[3, 0, 1, 2], [3, 1, 0, 2], [3, 1, 2, 0], [3, 2, 1, 0], [3, 0, 2, 1], [3, 2, 0, 1]])
        told = self.ask_triangle(*[call("word", 0, i) for i in range(6)])
        self.assertEqual(told, [[0], [1, 0], [1, 1], [2, 0, 1], [2, 1, 0], [2, 1, 1]])

    def test_first_the_one_then_the_other(self):
        told = self.ask_triangle(call("times", 0, 1, 2), call("times", 0, 2, 1))
        self.assertEqual(told, [[3], [4]])

    def test_inverse_power_order(self):
        told = self.ask_triangle(*[call("inverse", 0, i) for i in range(6)])
        self.assertEqual(told, [[0], [1], [5], [3], [4], [2]])
        told = self.ask_triangle(*[call("order", 0, i) for i in range(6)])
        self.assertEqual(told, [[1], [2], [3], [2], [2], [3]])
        told = self.ask_triangle(*[call("power", 0, 2, n) for n in (0, 1, 2, 3, 4, GREATEST)])
        self.assertEqual(told, [[0], [2], [5], [0], [2], [0]])

    def test_number(self):
        told = self.ask_triangle(call("number", 0, (2, 0, 1)), call("number", 0, (0, 1, 2)))
        self.assertEqual(told, [[5], [0]])

    def test_first_of_the_shortest_words(self):
        # 0 then 1 and 1 then 0 make the same; the first of these words counts.
        told = run(make(0, *GROUPS["klein"]), call("word", 0, 3), call("times", 0, 2, 1))
        self.assertEqual(told[1:], [[2, 0, 1], [3]])


class ByDefinition(unittest.TestCase):
    def test_size(self):
        for group, defined in DEFINED.items():
            self.assertEqual(ask(group, "size", [()]), [[defined.size]])

    def test_name(self):
        for group, defined in DEFINED.items():
            told = ask(group, "name", [(i,) for i in defined.all])
            self.assertEqual(told, [[len(name)] + list(name) for name in defined.names])

    def test_number(self):
        for group, defined in DEFINED.items():
            self.assertEqual(ask(group, "number", [(name,) for name in defined.names]), [[i] for i in defined.all])

    def test_word(self):
        for group, defined in DEFINED.items():
            self.assertEqual(defined.words, sorted(defined.words, key=lambda word: (len(word), word)))
            told = ask(group, "word", [(i,) for i in defined.all])
            self.assertEqual(told, [[len(word)] + word for word in defined.words])

    def test_times(self):
        for group, defined in DEFINED.items():
            pairs = [(i, j) for i in defined.all for j in defined.all]
            self.assertEqual(ask(group, "times", pairs), [[defined.table[i][j]] for i, j in pairs])

    def test_inverse(self):
        for group, defined in DEFINED.items():
            told = ask(group, "inverse", [(i,) for i in defined.all])
            self.assertEqual(told, [[j] for j in defined.inverses])
            for i, j in enumerate(defined.inverses):
                self.assertEqual((defined.table[i][j], defined.table[j][i]), (0, 0))

    def test_order_and_power(self):
        for group, defined in DEFINED.items():
            for i in defined.all:
                powers = [0, i]
                while powers[-1] != 0:
                    powers.append(defined.table[powers[-1]][i])
                order = len(powers) - 1
                self.assertEqual(ask(group, "order", [(i,)]), [[order]])
                exponents = list(range(order + 2)) + [59, 60, 61, GREATEST - 1, GREATEST]
                told = ask(group, "power", [(i, n) for n in exponents])
                self.assertEqual(told, [[powers[n % order]] for n in exponents])


class NoSuchName(unittest.TestCase):
    def test_shuffles_that_are_not_in_the_group(self):
        rows = [(0, 2, 1, 3), (1, 0, 2, 3), (3, 2, 0, 1)]
        self.assertEqual(ask("tetrahedron", "number", [(row,) for row in rows]), [[-2]] * 3)

    def test_rows_that_are_no_shuffles_of_these_places(self):
        rows = [(), (0,), (0, 1), (0, 1, 2, 3), (0, 0, 0), (0, 1, 3), (0, 1, 255), (255,) * 60, tuple(range(60))]
        self.assertEqual(ask("triangle", "number", [(row,) for row in rows]), [[-2]] * len(rows))

    def test_no_name_even_in_the_least_group(self):
        told = run(make(0, 2, []), call("number", 0, (1, 0)), call("number", 0, (0, 1)))
        self.assertEqual(told, [[1], [-2], [0]])


if __name__ == "__main__":
    unittest.main()
