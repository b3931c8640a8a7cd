"""Points 24 and 25: same, maps."""

import unittest
from itertools import product as rows_of

from tests.helper import DEFINED, GROUPS, call, calls_for, first_same, make, run

MOST = 4096


def choices(group, other):
    return DEFINED[other].size ** len(DEFINED[group].generators)


def ask_both(group, other):
    """What same and maps answer from the group to the other."""
    # What needs all three places while it is made comes first.
    if len(calls_for(other, 0)) > len(calls_for(group, 0)):
        first, k, l = calls_for(other, 0) + calls_for(group, 1), 1, 0
    else:
        first, k, l = calls_for(group, 0) + calls_for(other, 1), 0, 1
    return run(*first, call("same", k, l), call("maps", k, l))[-2:]


class ByHand(unittest.TestCase):
    def test_how_many_maps(self):
        counts = {
            ("one", "one"): 1, ("one", "icosahedron"): 1, ("icosahedron", "one"): 1, ("two", "triangle"): 4,
            ("three", "triangle"): 3, ("triangle", "two"): 2, ("triangle", "three"): 1, ("triangle", "triangle"): 10,
            ("klein", "klein"): 16, ("klein", "triangle"): 10, ("four", "klein"): 4, ("six", "six"): 6,
            ("eight", "eight"): 512, ("cube", "cube"): 58, ("icosahedron", "icosahedron"): 121,
            ("five", "icosahedron"): 25, ("two", "icosahedron"): 16, ("tetrahedron", "three"): 3,
        }
        for (group, other), count in counts.items():
            self.assertEqual(ask_both(group, other)[1], [count], (group, other))

    def test_same_and_made_of_other_generators(self):
        # The turns of the triangle are 2 and 5 in the one and 1 and 3 in the other, the swaps 1, 3, 4 and 2, 4, 5.
        told = run(
            make(0, 3, [(1, 0, 2), (1, 2, 0)]), make(1, 3, [(1, 2, 0), (1, 0, 2)]),
            call("same", 0, 1), call("same", 1, 0),
        )
        self.assertEqual(told[2], [1, 0, 2, 1, 5, 4, 3])
        self.assertEqual(told[3], [1, 0, 2, 1, 5, 4, 3])

    def test_not_every_place_to_itself(self):
        # An element of order 3 has to go to the first of order 3.
        told = run(*calls_for("three", 0), *calls_for("six", 1), call("over", 1, 1, [0, 3]), call("same", 0, 1))
        self.assertEqual(told[-1], [1, 0, 1, 2])
        twice_and_once = make(1, 4, [(2, 3, 0, 1), (1, 2, 3, 0)])
        told = run(make(0, 4, [(1, 2, 3, 0)]), twice_and_once, call("same", 0, 1), call("same", 1, 0))
        self.assertEqual(told[2:], [[1, 0, 2, 1, 3], [1, 0, 2, 1, 3]])

    def test_a_place_with_itself(self):
        for group, defined in DEFINED.items():
            if choices(group, group) <= MOST:
                told = run(*calls_for(group, 0), call("same", 0, 0))[-1]
                self.assertEqual(told, [1] + defined.all)

    def test_one_size_but_not_the_same(self):
        pairs = (
            ("klein", "four"), ("triangle", "six"), ("square", "eight"), ("square", "four and two"),
            ("eight", "four and two"), ("hexagon", "tetrahedron"), ("icosahedron", "tetrahedron and five"),
            ("triangles", "six and six"), ("cube over four", "six"),
        )
        for group, other in pairs:
            self.assertEqual(DEFINED[group].size, DEFINED[other].size)
            for first, second in ((group, other), (other, group)):
                wanted = [0] if choices(first, second) <= MOST else [-6]
                self.assertEqual(ask_both(first, second)[0], wanted, (first, second))

    def test_different_sizes(self):
        pairs = (
            ("one", "two"), ("two", "four"), ("klein", "eight"), ("triangle", "hexagon"),
            ("tetrahedron", "icosahedron"),
        )
        for group, other in pairs:
            self.assertEqual([ask_both(group, other)[0], ask_both(other, group)[0]], [[0], [0]])

    def test_no_generators(self):
        for group in ("one", "triangle over all"):
            for other in ("one", "triangle over all"):
                self.assertEqual(ask_both(group, other), [[1, 0], [1]])
        told = run(make(0, 1, []), make(1, 6, []), call("same", 0, 1), call("same", 1, 0), call("maps", 0, 0))
        self.assertEqual(told[2:], [[1, 0], [1, 0], [1]])

    def test_alike_generators(self):
        turn = (1, 2, 0)
        told = run(
            make(0, 3, [turn] * 4), make(1, 3, [turn]), call("maps", 0, 1), call("same", 0, 1), call("maps", 1, 0),
            make(2, 3, [(0, 1, 2), (2, 0, 1), turn]), call("same", 2, 0), call("maps", 2, 1), call("same", 0, 2),
        )
        same = [1, 0, 1, 2]
        self.assertEqual(told[2:], [[3], same, [3], [3], same, [3], same])

    def test_idle_generators(self):
        told = run(make(0, 1, [(0,)] * 4), make(1, *GROUPS["eight"]), call("maps", 0, 1), call("same", 0, 0))
        self.assertEqual(told[2:], [[1], [1, 0]])


class ByDefinition(unittest.TestCase):
    def test_small_groups_by_all_rows(self):
        # Every way of giving each element one of the other's, whatever the generators are.
        for group in ("one", "two", "three", "four", "klein", "triangle", "five", "square over two", "alike"):
            for other in ("one", "two", "three", "klein", "four", "triangle", "cube over four"):
                defined, into = DEFINED[group], DEFINED[other]
                if into.size ** defined.size <= 50000:
                    rows = [row for row in rows_of(into.all, repeat=defined.size) if defined.is_map(into, row)]
                    wanted = [first_same(into, rows), [len(rows)]]
                    self.assertEqual(ask_both(group, other), wanted, (group, other))

    def test_all_pairs_of_groups(self):
        asked = 0
        same = 0
        for group in DEFINED:
            for other in DEFINED:
                if group == other == "two and triangle and five":
                    continue
                if choices(group, other) > MOST:
                    self.assertEqual(ask_both(group, other), [[-6], [-6]], (group, other))
                else:
                    rows = DEFINED[group].maps(DEFINED[other])
                    wanted = first_same(DEFINED[other], rows)
                    self.assertEqual(ask_both(group, other), [wanted, [len(rows)]], (group, other))
                    asked += 1
                    same += wanted[0]
        self.assertGreater(asked, 600)
        self.assertGreater(same, 40)

    def test_the_same_both_ways(self):
        for group in DEFINED:
            for other in ("two", "klein", "triangle", "eight", "hexagon", "cube over four"):
                if DEFINED[group].size == DEFINED[other].size:
                    ways = [ask_both(group, other)[0][0], ask_both(other, group)[0][0]]
                    if -6 not in ways:
                        self.assertEqual(ways[0], ways[1])


class TooMany(unittest.TestCase):
    def test_just_as_many_as_there_may_be(self):
        self.assertEqual((choices("klein and klein", "eight"), choices("eight", "klein and klein")), (MOST, MOST))
        # To each of four generators one of eight, to each of three one of sixteen: each gives a map.
        self.assertEqual(ask_both("klein and klein", "eight"), [[0], [4096]])
        self.assertEqual(ask_both("eight", "klein and klein"), [[0], [4096]])

    def test_more(self):
        # 5832 is the first number above 4096 that groups lead to.
        self.assertEqual(choices("eight", "triangle and three"), 5832)
        pairs = (
            ("eight", "triangle and three"), ("triangle and three", "triangle and three"),
            ("klein and klein", "nine"), ("alike", "nine"), ("eight", "twenty"), ("eight", "icosahedron"),
            ("alike", "tetrahedron"), ("alike", "icosahedron"), ("triangle and four", "cube"),
        )
        for group, other in pairs:
            self.assertGreater(choices(group, other), MOST)
            self.assertEqual(ask_both(group, other), [[-6], [-6]])
        first = calls_for("klein and klein", 0)
        self.assertEqual(run(*first, call("same", 0, 0), call("maps", 0, 0))[-2:], [[-6], [-6]])

    def test_generators_of_the_first_and_elements_of_the_second_count(self):
        self.assertEqual(ask_both("alike", "nine"), [[-6], [-6]])
        self.assertEqual(ask_both("nine", "alike")[0], [0])
        self.assertEqual(ask_both("triangle", "nine"), [[0], [1]])
        self.assertEqual(ask_both("icosahedron", "icosahedron")[0][0], 1)

    def test_in_groups_made_of_groups(self):
        # Quotients keep how many generators there are, products have those of both.
        first = calls_for("triangle and four over two", 0) + calls_for("hexagon", 1)
        told = run(*first, call("same", 0, 1), call("same", 1, 0))
        self.assertEqual((told[-2], told[-1][0]), ([-6], 1))

    def test_refused_nothing_changes(self):
        first = calls_for("alike", 0) + calls_for("nine", 1)
        sizes = [call("size", k) for k in range(3)]
        for what in ("same", "maps"):
            self.assertEqual(run(*first, call(what, 0, 1), *sizes)[2:], [[-6], [6], [9], [-1]])


if __name__ == "__main__":
    unittest.main()
