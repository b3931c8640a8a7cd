"""What is refused with -1, that nothing changes then, and that places know nothing of one another."""

import unittest

from tests.helper import DEFINED, GREATEST, GROUPS, call, make, run, snapshot

NO_PLACES = (3, 4, 255, GREATEST)
# Good further values for each call of points 2 to 13, on a group of two elements at least.
GOOD = {
    "size": (), "name": (1,), "number": ([0, 1, 2],), "word": (1,), "times": (1, 1), "inverse": (1,),
    "power": (1, 2), "order": (1,), "made": ([1],), "kind": ([1],), "normal": ([1],), "central": ([1],),
}
OF_ONE_ELEMENT = ("name", "word", "inverse", "order")
OF_A_SET = ("made", "kind", "normal", "central")


def wrong_sets(size):
    return [
        [1, 0], [0, 2, 1], [0, 0], [1, 1], [0, 1, 1], [size], [0, size], [255], [0, 1, 255],
        [1, 0, 255], list(range(size + 1)), [0] * 60, list(range(60)) if size < 60 else list(range(1, 61)),
    ]


class NoGroupThere(unittest.TestCase):
    def test_no_place(self):
        for what, given in GOOD.items():
            for k in NO_PLACES:
                with self.subTest(what=what, k=k):
                    filled = [make(place, *GROUPS["triangle"]) for place in range(3)]
                    self.assertEqual(run(*filled, call(what, k, *given))[3:], [[-1]])

    def test_place_without_a_group(self):
        for what, given in GOOD.items():
            for k in range(3):
                with self.subTest(what=what, k=k):
                    filled = [make(place, *GROUPS["triangle"]) for place in range(3) if place != k]
                    self.assertEqual(run(call(what, k, *given), *filled, call(what, k, *given)), [[-1], [6], [6], [-1]])

    def test_before_no_such_name(self):
        self.assertEqual(run(call("number", 0, [9]), call("number", 3, [])), [[-1], [-1]])


class NoElement(unittest.TestCase):
    def test_one(self):
        for what in OF_ONE_ELEMENT:
            for group in ("one", "triangle", "icosahedron"):
                size = DEFINED[group].size
                for i in (size, size + 1, 255, GREATEST):
                    with self.subTest(what=what, group=group, i=i):
                        self.assertEqual(run(make(0, *GROUPS[group]), call(what, 0, i))[1:], [[-1]])
                self.assertNotEqual(run(make(0, *GROUPS[group]), call(what, 0, size - 1))[1], [-1])

    def test_times(self):
        for i, j in ((6, 0), (0, 6), (6, 6), (GREATEST, 0), (0, GREATEST)):
            self.assertEqual(run(make(0, *GROUPS["triangle"]), call("times", 0, i, j))[1:], [[-1]])

    def test_power(self):
        for i in (6, 7, GREATEST):
            for n in (0, 1, GREATEST):
                self.assertEqual(run(make(0, *GROUPS["triangle"]), call("power", 0, i, n))[1:], [[-1]])


class NoSet(unittest.TestCase):
    def test_sets(self):
        for what in OF_A_SET:
            for group in ("two", "triangle", "tetrahedron"):
                size = DEFINED[group].size
                for s in wrong_sets(size):
                    with self.subTest(what=what, group=group, s=s):
                        self.assertEqual(run(make(0, *GROUPS[group]), call(what, 0, s))[1:], [[-1]])

    def test_greatest_group(self):
        for what in OF_A_SET:
            for s in ([60], list(range(1, 61)), list(range(59)) + [60], [59, 58]):
                self.assertEqual(run(make(0, *GROUPS["icosahedron"]), call(what, 0, s))[1:], [[-1]])

    def test_no_set_of_this_group_but_of_another(self):
        for what in OF_A_SET:
            told = run(make(0, *GROUPS["two"]), make(1, *GROUPS["triangle"]), call(what, 0, [0, 5]), call(what, 1, [0, 5]))
            self.assertEqual(told[2], [-1])
            self.assertNotEqual(told[3], [-1])


class NothingChanges(unittest.TestCase):
    def refused(self):
        calls = [
            make(3, 2, [(1, 0)]), call("make", 1, 0, []), call("make", 1, 7, []), call("make", 1, 3, [0, 0, 1]),
            call("make", 1, 3, [0, 1]), call("make", 1, 1, [0] * 5), call("make", 1, 5, [1, 2, 3, 4, 0, 1, 0, 2, 3, 4]),
            call("number", 1, [9, 9, 9]), call("times", 1, 0, 6), call("power", 1, 6, 1),
        ]
        calls += [call(what, 1, 6) for what in OF_ONE_ELEMENT]
        calls += [call(what, 1, [1, 0]) for what in OF_A_SET]
        return calls + [call("size", 2)]

    def test_refusals_stand_alone(self):
        for told in run(make(1, *GROUPS["triangle"]), *self.refused())[1:]:
            self.assertEqual(len(told), 1)
            self.assertTrue(told[0] in (-1, -2, -3))

    def test_refusals_change_nothing(self):
        groups = [make(0, *GROUPS["klein"]), make(1, *GROUPS["triangle"])]
        for k, size in ((0, 4), (1, 6)):
            told = snapshot(k, size)
            before = run(*groups, *told)[2:]
            for refused in self.refused():
                self.assertEqual(run(*groups, refused, *told)[3:], before)
        for refused in self.refused():
            self.assertEqual(run(*groups, refused, call("size", 2))[3], [-1])

    def test_questions_change_nothing(self):
        group = make(1, *GROUPS["triangle"])
        before = run(group, *snapshot(1, 6))[1:]
        for what, given in GOOD.items():
            self.assertEqual(run(group, call(what, 1, *given), *snapshot(1, 6))[2:], before)


class PlacesKnowNothingOfOneAnother(unittest.TestCase):
    def test_made_elsewhere(self):
        filled = [make(0, *GROUPS["klein"]), make(1, *GROUPS["triangle"]), make(2, *GROUPS["three"])]
        for k, group in ((0, "klein"), (1, "triangle"), (2, "three")):
            asked = snapshot(k, DEFINED[group].size)
            alone = run(filled[k], *asked)[1:]
            for order in ((0, 1, 2), (2, 1, 0), (1, 2, 0)):
                self.assertEqual(run(*[filled[place] for place in order], *asked)[3:], alone)
            others = [make(place, *GROUPS["square"]) for place in range(3) if place != k]
            self.assertEqual(run(filled[k], *others, *asked)[3:], alone)

    def test_one_group_in_all_places(self):
        told = run(*[make(k, *GROUPS["square"]) for k in range(3)], make(1, 2, []), *[call("size", k) for k in range(3)])
        self.assertEqual(told[4:], [[8], [1], [8]])


if __name__ == "__main__":
    unittest.main()
