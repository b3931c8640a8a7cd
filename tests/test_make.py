"""Point 1: make; and the words ahead of it as far as they speak of make."""

import unittest

from tests.helper import GREATEST, GROUPS, call, make, run

SIZES = {
    "one": 1, "two": 2, "three": 3, "four": 4, "five": 5, "six": 6, "klein": 4, "eight": 8, "four and two": 8,
    "nine": 9, "triangle": 6, "alike": 6, "square": 8, "hexagon": 12, "tetrahedron": 12, "twenty": 20, "cube": 24,
    "triangles": 36, "icosahedron": 60,
}


class Make(unittest.TestCase):
    def test_sizes(self):
        for group, size in SIZES.items():
            for k in range(3):
                with self.subTest(group=group, k=k):
                    self.assertEqual(run(make(k, *GROUPS[group]), call("size", k)), [[size], [size]])

    def test_no_generators(self):
        for n in range(1, 7):
            told = run(make(0, n, []), call("size", 0), call("name", 0, 0), call("word", 0, 0))
            self.assertEqual(told, [[1], [1], [n] + list(range(n)), [0]])

    def test_generators_that_change_nothing(self):
        told = run(make(0, 1, [[0]] * 4), call("word", 0, 0), make(1, 3, [[0, 1, 2]]), call("size", 1))
        self.assertEqual(told, [[1], [0], [1], [1]])

    def test_alike_generators(self):
        turn = (1, 2, 0)
        told = run(make(0, 3, [turn] * 4), call("word", 0, 1), call("word", 0, 2))
        self.assertEqual(told, [[3], [1, 0], [2, 0, 0]])
        told = run(make(0, 3, [(0, 1, 2), turn, turn]), call("word", 0, 1), call("word", 0, 2))
        self.assertEqual(told, [[3], [1, 1], [2, 1, 1]])

    def test_four_generators(self):
        swaps = [(1, 0, 2, 3), (0, 2, 1, 3), (0, 1, 3, 2), (3, 1, 2, 0)]
        told = run(make(0, 4, swaps), call("word", 0, 4))
        self.assertEqual(told, [[24], [1, 3]])

    def test_just_sixty(self):
        self.assertEqual(run(make(2, *GROUPS["icosahedron"])), [[60]])
        turn = (1, 2, 3, 4, 0, 5)
        self.assertEqual(run(make(0, 6, [(1, 2, 0, 3, 4, 5), turn])), [[60]])
        self.assertEqual(run(make(0, 6, [turn, (5, 4, 2, 3, 1, 0)]), call("size", 0)), [[60], [60]])

    def test_more_than_sixty(self):
        told = run(
            make(0, 5, [(1, 2, 3, 4, 0), (1, 0, 2, 3, 4)]),
            make(0, 6, [(1, 2, 3, 4, 5, 0), (1, 0, 2, 3, 4, 5)]),
            make(0, 6, [(1, 2, 0, 3, 4, 5), (0, 1, 2, 4, 5, 3), (3, 4, 5, 0, 1, 2), (1, 0, 2, 3, 4, 5)]),
            call("size", 0),
        )
        self.assertEqual(told, [[-3], [-3], [-3], [-1]])

    def test_no_place(self):
        for k in (3, 4, 255, GREATEST):
            self.assertEqual(run(make(k, 2, [(1, 0)]), make(k, 2, [])), [[-1], [-1]])

    def test_no_number_of_places(self):
        for n in (0, 7, 8, 60, GREATEST):
            for g in ([], [0], list(range(min(n, 60)))):
                self.assertEqual(run(call("make", 0, n, g), call("size", 0)), [[-1], [-1]])

    def test_not_whole_shuffles(self):
        for g in ([0], [0, 1], [0, 1, 2, 0], [0, 1, 2, 1, 2], [1, 2, 0] * 3 + [0]):
            self.assertEqual(run(call("make", 0, 3, g)), [[-1]])

    def test_not_each_number_once(self):
        rows = ([0, 0, 1], [2, 2, 2], [0, 1, 3], [1, 2, 3], [0, 1, 255], [0, 2, 2])
        for row in rows:
            for g in (row, [1, 2, 0] + row, row + [1, 2, 0], [1, 2, 0] * 3 + row):
                self.assertEqual(run(call("make", 0, 3, g)), [[-1]])

    def test_more_than_four_shuffles(self):
        self.assertEqual(run(call("make", 0, 1, [0] * 4)), [[1]])
        for n in range(1, 7):
            self.assertEqual(run(call("make", 0, n, list(range(n)) * 5)), [[-1]])
        self.assertEqual(run(call("make", 0, 1, [0] * 60)), [[-1]])
        self.assertEqual(run(call("make", 0, 6, list(range(6)) * 10)), [[-1]])

    def test_no_shuffles_before_too_many(self):
        whole = [1, 2, 3, 4, 0, 1, 0, 2, 3, 4]
        self.assertEqual(run(call("make", 0, 5, whole)), [[-3]])
        self.assertEqual(run(call("make", 0, 5, whole + [0, 1, 2, 3, 3])), [[-1]])
        self.assertEqual(run(call("make", 3, 5, whole)), [[-1]])

    def test_made_in_place_of_another(self):
        told = run(
            make(0, *GROUPS["square"]), make(0, *GROUPS["two"]), call("size", 0), call("name", 0, 1),
            call("name", 0, 2), make(0, *GROUPS["three"]), call("name", 0, 2),
        )
        self.assertEqual(told, [[8], [2], [2], [2, 1, 0], [-1], [3], [3, 2, 0, 1]])


if __name__ == "__main__":
    unittest.main()
