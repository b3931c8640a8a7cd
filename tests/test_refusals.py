"""What is refused with -1, that nothing changes then, and that places know nothing of one another."""

import unittest

from tests.helper import DEFINED, GREATEST, GROUPS, call, calls_for, make, run, snapshot

NO_PLACES = (3, 4, 255, GREATEST)
# Good further values for each call that asks of one place, on a group of two elements at least.
GOOD = {
    "size": (), "name": (1,), "number": ([0, 1, 2],), "word": (1,), "times": (1, 1), "inverse": (1,),
    "power": (1, 2), "order": (1,), "made": ([1],), "kind": ([1],), "normal": ([1],), "central": ([1],),
    "stay": ([1],), "mixed": ([1], [0, 1]), "classes": (), "cosets": ([0],), "series": (0,), "prime": (2,),
    "shape": (), "simple": (),
}
OF_ONE_ELEMENT = ("name", "word", "inverse", "order")
OF_A_SET = ("made", "kind", "normal", "central", "stay", "cosets")
OF_TWO_PLACES = ("same", "maps")


def wrong_sets(size):
    return [
        [1, 0], [0, 2, 1], [0, 0], [1, 1], [0, 1, 1], [size], [0, size], [255], [0, 1, 255],
        [1, 0, 255], list(range(size + 1)), [0] * 60, list(range(60)) if size < 60 else list(range(1, 61)),
    ]


class NoGroupThere(unittest.TestCase):
    def test_no_place(self):
        for what, given in GOOD.items():
            for k in NO_PLACES:
                with self.subTest(what=what, k=k):
                    filled = [make(place, *GROUPS["triangle"]) for place in range(3)]
                    self.assertEqual(run(*filled, call(what, k, *given))[3:], [[-1]])

    def test_place_without_a_group(self):
        for what, given in GOOD.items():
            for k in range(3):
                with self.subTest(what=what, k=k):
                    filled = [make(place, *GROUPS["triangle"]) for place in range(3) if place != k]
                    self.assertEqual(run(call(what, k, *given), *filled, call(what, k, *given)), [[-1], [6], [6], [-1]])

    def test_two_places(self):
        filled = [make(place, *GROUPS["triangle"]) for place in range(3)]
        for what in OF_TWO_PLACES:
            for k in NO_PLACES:
                told = run(*filled, call(what, k, 0), call(what, 0, k), call(what, k, k))
                self.assertEqual(told[3:], [[-1]] * 3)
            for k in range(3):
                asked = [call(what, k, l) for l in range(3)] + [call(what, l, k) for l in range(3)]
                self.assertEqual(run(*[filled[l] for l in range(3) if l != k], *asked)[2:], [[-1]] * 6)

    def test_over(self):
        filled = [make(place, *GROUPS["triangle"]) for place in range(3)]
        for k in NO_PLACES:
            asked = [call("over", d, k, [0]) for d in range(3)] + [call("over", k, d, [0]) for d in range(3)]
            self.assertEqual(run(*filled, *asked)[3:], [[-1]] * 6)
        for k in range(3):
            others = [filled[place] for place in range(3) if place != k]
            self.assertEqual(run(*others, *[call("over", d, k, [0]) for d in range(3)])[2:], [[-1]] * 3)

    def test_pairs(self):
        filled = [make(place, *GROUPS["three"]) for place in range(3)]
        for x in NO_PLACES:
            asked = [call("pairs", *given) for given in ((x, 0, 1), (0, x, 1), (0, 1, x), (x, x, x))]
            self.assertEqual(run(*filled, *asked)[3:], [[-1]] * 4)
        for k in range(3):
            others = [filled[place] for place in range(3) if place != k]
            asked = [call("pairs", d, k, l) for d in range(3) for l in range(3)]
            asked += [call("pairs", d, l, k) for d in range(3) for l in range(3)]
            self.assertEqual(run(*others, *asked)[2:], [[-1]] * 18)

    def test_what_is_put_may_go_where_no_group_is(self):
        told = run(make(0, *GROUPS["three"]), call("over", 1, 0, [0]), call("pairs", 2, 0, 1))
        self.assertEqual(told, [[3], [3], [9]])


class FirstOfAll(unittest.TestCase):
    """-1 comes before every other refusal."""

    def test_before_no_such_name(self):
        self.assertEqual(run(call("number", 0, [9]), call("number", 3, [])), [[-1], [-1]])

    def test_before_no_subgroup_and_no_prime(self):
        group = make(0, *GROUPS["triangle"])
        told = run(
            group, call("cosets", 1, []), call("cosets", 3, [1]), call("cosets", 0, [2, 1]), call("cosets", 0, [1, 6]),
            call("prime", 1, 4), call("prime", 3, 0), call("prime", GREATEST, GREATEST),
        )
        self.assertEqual(told[1:], [[-1]] * 7)

    def test_before_not_normal(self):
        told = run(
            make(0, *GROUPS["triangle"]), call("over", 3, 0, [0, 1]), call("over", GREATEST, 0, []),
            call("over", 0, 1, [0, 1]), call("over", 0, 3, []), call("over", 1, 0, [1, 0]), call("over", 1, 0, [1, 6]),
            call("over", 3, 0, [1, 0]), call("over", 1, 0, [0, 1]),
        )
        self.assertEqual(told[1:], [[-1]] * 7 + [[-2]])

    def test_before_too_great_a_product(self):
        told = run(
            make(0, *GROUPS["icosahedron"]), call("pairs", 3, 0, 0), call("pairs", 0, 0, 1), call("pairs", 0, 1, 0),
            call("pairs", 0, 0, 3), call("pairs", 0, 3, 0), make(1, 1, [(0,)] * 4), call("pairs", 3, 1, 1),
            call("pairs", 2, 1, 2), call("pairs", 2, 0, 0), call("pairs", 2, 1, 1),
        )
        self.assertEqual(told, [[60]] + [[-1]] * 5 + [[1], [-1], [-1], [-3], [-3]])

    def test_before_too_many_choices(self):
        for what in OF_TWO_PLACES:
            told = run(
                *calls_for("alike", 0), call(what, 0, 1), call(what, 1, 0), call(what, 0, 3),
                *calls_for("nine", 1), call(what, 0, 1),
            )
            self.assertEqual(told, [[6], [-1], [-1], [-1], [9], [-6]])


class NoElement(unittest.TestCase):
    def test_one(self):
        for what in OF_ONE_ELEMENT:
            for group in ("one", "triangle", "icosahedron"):
                size = DEFINED[group].size
                for i in (size, size + 1, 255, GREATEST):
                    with self.subTest(what=what, group=group, i=i):
                        self.assertEqual(run(make(0, *GROUPS[group]), call(what, 0, i))[1:], [[-1]])
                self.assertNotEqual(run(make(0, *GROUPS[group]), call(what, 0, size - 1))[1], [-1])

    def test_times(self):
        for i, j in ((6, 0), (0, 6), (6, 6), (GREATEST, 0), (0, GREATEST)):
            self.assertEqual(run(make(0, *GROUPS["triangle"]), call("times", 0, i, j))[1:], [[-1]])

    def test_power(self):
        for i in (6, 7, GREATEST):
            for n in (0, 1, GREATEST):
                self.assertEqual(run(make(0, *GROUPS["triangle"]), call("power", 0, i, n))[1:], [[-1]])


class NoSet(unittest.TestCase):
    def test_sets(self):
        for what in OF_A_SET:
            for group in ("two", "triangle", "tetrahedron"):
                size = DEFINED[group].size
                for s in wrong_sets(size):
                    with self.subTest(what=what, group=group, s=s):
                        self.assertEqual(run(make(0, *GROUPS[group]), call(what, 0, s))[1:], [[-1]])

    def test_greatest_group(self):
        for what in OF_A_SET:
            for s in ([60], list(range(1, 61)), list(range(59)) + [60], [59, 58]):
                self.assertEqual(run(make(0, *GROUPS["icosahedron"]), call(what, 0, s))[1:], [[-1]])

    def test_no_set_of_this_group_but_of_another(self):
        for what in OF_A_SET:
            groups = [make(0, *GROUPS["two"]), make(1, *GROUPS["triangle"])]
            told = run(*groups, call(what, 0, [0, 5]), call(what, 1, [0, 5]))
            self.assertEqual(told[2], [-1])
            self.assertNotEqual(told[3], [-1])

    def test_mixed_on_either_side(self):
        for group in ("two", "triangle", "tetrahedron", "cube over four", "klein and klein"):
            for s in wrong_sets(DEFINED[group].size):
                for given in ((s, []), ([], s), (s, [0, 1]), ([0, 1], s), (s, s)):
                    self.assertEqual(run(*calls_for(group, 0), call("mixed", 0, *given))[-1], [-1])

    def test_over(self):
        for group in ("two", "triangle", "tetrahedron", "cube over four", "klein and klein"):
            for s in wrong_sets(DEFINED[group].size):
                for d in range(2):
                    self.assertEqual(run(*calls_for(group, 0), call("over", d, 0, s))[-1], [-1])

    def test_over_a_set_of_the_place_it_comes_from(self):
        groups = [make(0, *GROUPS["two"]), make(1, *GROUPS["triangle"])]
        self.assertEqual(run(*groups, call("over", 1, 0, [0, 2, 5]), call("over", 0, 1, [0, 2, 5]))[2:], [[-1], [2]])
        self.assertEqual(run(*groups, call("over", 1, 0, [0, 1]), call("size", 1))[2:], [[1], [1]])

    def test_sets_and_elements_of_groups_made_of_groups(self):
        for group in ("cube over four", "klein and klein", "two and triangle and five", "triangle over all"):
            first = calls_for(group, 0)
            size = DEFINED[group].size
            for what in OF_A_SET:
                self.assertEqual(run(*first, call(what, 0, [size]), call(what, 0, [0, 0]))[-2:], [[-1], [-1]])
            for what in OF_ONE_ELEMENT:
                self.assertEqual(run(*first, call(what, 0, size))[-1], [-1])


class NothingChanges(unittest.TestCase):
    def refused(self):
        calls = [
            make(3, 2, [(1, 0)]), call("make", 1, 0, []), call("make", 1, 7, []), call("make", 1, 3, [0, 0, 1]),
            call("make", 1, 3, [0, 1]), call("make", 1, 1, [0] * 5), call("make", 1, 5, [1, 2, 3, 4, 0, 1, 0, 2, 3, 4]),
            call("number", 1, [9, 9, 9]), call("times", 1, 0, 6), call("power", 1, 6, 1),
        ]
        calls += [call(what, 1, 6) for what in OF_ONE_ELEMENT]
        calls += [call(what, 1, [1, 0]) for what in OF_A_SET]
        calls += [call("mixed", 1, [1, 0], []), call("cosets", 1, [1]), call("prime", 1, 4)]
        calls += [call("over", *given) for given in ((0, 1, [0, 1]), (1, 1, []), (2, 1, [1, 0]), (3, 1, [0]))]
        calls += [call("pairs", 3, 0, 1), call("pairs", 0, 2, 1), call("pairs", 1, 1, 3)]
        calls += [call("same", 1, 2), call("maps", 2, 1), call("same", 3, 0)]
        return calls + [call("size", 2)]

    def test_refusals_stand_alone(self):
        groups = [make(0, *GROUPS["klein"]), make(1, *GROUPS["triangle"])]
        for refused in self.refused():
            told = run(*groups, refused)[2]
            self.assertEqual(len(told), 1)
            self.assertTrue(told[0] in (-1, -2, -3))

    def test_refusals_change_nothing(self):
        groups = [make(0, *GROUPS["klein"]), make(1, *GROUPS["triangle"])]
        for k, size in ((0, 4), (1, 6)):
            told = snapshot(k, size)
            before = run(*groups, *told)[2:]
            for refused in self.refused():
                self.assertEqual(run(*groups, refused, *told)[3:], before)
        for refused in self.refused():
            self.assertEqual(run(*groups, refused, call("size", 2))[3], [-1])

    def test_questions_change_nothing(self):
        group = make(1, *GROUPS["triangle"])
        before = run(group, *snapshot(1, 6))[1:]
        for what, given in GOOD.items():
            self.assertEqual(run(group, call(what, 1, *given), *snapshot(1, 6))[2:], before)
        for what in OF_TWO_PLACES:
            self.assertEqual(run(group, call(what, 1, 1), *snapshot(1, 6))[2:], before)
            other = make(0, *GROUPS["nine"])
            self.assertEqual(run(other, group, call(what, 1, 0), call(what, 0, 1), *snapshot(1, 6))[4:], before)


class PlacesKnowNothingOfOneAnother(unittest.TestCase):
    def test_made_elsewhere(self):
        filled = [make(0, *GROUPS["klein"]), make(1, *GROUPS["triangle"]), make(2, *GROUPS["three"])]
        for k, group in ((0, "klein"), (1, "triangle"), (2, "three")):
            asked = snapshot(k, DEFINED[group].size)
            alone = run(filled[k], *asked)[1:]
            for order in ((0, 1, 2), (2, 1, 0), (1, 2, 0)):
                self.assertEqual(run(*[filled[place] for place in order], *asked)[3:], alone)
            others = [make(place, *GROUPS["square"]) for place in range(3) if place != k]
            self.assertEqual(run(filled[k], *others, *asked)[3:], alone)

    def test_groups_made_of_groups_stay_when_those_change(self):
        first = calls_for("cube", 0) + [call("over", 1, 0, DEFINED["cube"].normal_of_size(4)), call("pairs", 2, 1, 1)]
        for k, size in ((1, 6), (2, 36)):
            before = run(*first, *snapshot(k, size))[3:]
            for other in range(3):
                if other != k:
                    for change in (make(other, 2, []), call("over", other, other, [0])):
                        self.assertEqual(run(*first, change, *snapshot(k, size))[4:], before)

    def test_one_group_in_all_places(self):
        filled = [make(k, *GROUPS["square"]) for k in range(3)]
        told = run(*filled, make(1, 2, []), *[call("size", k) for k in range(3)])
        self.assertEqual(told[4:], [[8], [1], [8]])


if __name__ == "__main__":
    unittest.main()
