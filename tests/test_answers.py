"""The interface: how calls stand in the list, and how their answers stand in what is given back."""

import contextlib
import io
import unittest

from shufflegroups.groups import answers
from tests.helper import GREATEST, GROUPS, call, make, run


class Unchangeable(list):
    """A list that tells whoever would change it, even for a while."""

    def refuse(self, *given):
        raise AssertionError("the list handed in was to be changed")

    append = clear = extend = insert = pop = remove = reverse = sort = refuse
    __setitem__ = __delitem__ = __iadd__ = __imul__ = refuse


# Thirty calls, all of the 25 among them, with their answers behind their counts, written out.
ALL_CALLS = [
    1, 0, 3, 6, 1, 0, 2, 1, 2, 0,
    2, 0,
    3, 0, 4,
    4, 0, 3, 2, 0, 1,
    5, 0, 4,
    6, 0, 1, 2,
    7, 0, 2,
    8, 0, 2, GREATEST - 1,
    9, 0, 2,
    10, 0, 1, 2,
    11, 0, 2, 0, 1,
    12, 0, 1, 2,
    13, 0, 1, 1,
    14, 0, 2, 1, 3,
    15, 0, 1, 1, 2, 0, 2,
    16, 0,
    17, 0, 2, 0, 1,
    18, 0, GREATEST,
    19, 0, 2,
    20, 0,
    21, 0,
    22, 1, 0, 3, 0, 2, 5,
    23, 2, 0, 1,
    24, 0, 0,
    25, 2, 1,
    3, 2, 3,
    4, 0, 0,
    10, 1, 0,
    1, 1, 5, 10, 1, 2, 3, 4, 0, 1, 0, 2, 3, 4,
    22, 0, 0, 0,
]
ALL_ANSWERS = [
    1, 6,
    1, 6,
    4, 3, 0, 2, 1,
    1, 5,
    3, 2, 1, 0,
    1, 3,
    1, 5,
    1, 5,
    1, 3,
    4, 3, 0, 2, 5,
    1, 1,
    4, 3, 0, 2, 5,
    3, 2, 0, 1,
    3, 2, 0, 4,
    4, 3, 0, 2, 5,
    7, 3, 0, 1, 2, 1, 1, 2,
    7, 3, 0, 0, 2, 3, 2, 3,
    3, 2, 6, 3,
    3, 2, 0, 1,
    2, 1, 2,
    1, 0,
    1, 2,
    1, 12,
    7, 1, 0, 1, 2, 3, 4, 5,
    1, 4,
    2, 1, 1,
    1, -2,
    2, 1, 0,
    1, -3,
    1, -2,
]


class Answers(unittest.TestCase):
    def test_empty(self):
        self.assertEqual(answers([]), [])

    def test_one_of_each(self):
        self.assertEqual(answers(list(ALL_CALLS)), ALL_ANSWERS)

    def test_kinds_of_values(self):
        told = answers(list(ALL_CALLS))
        self.assertIs(type(told), list)
        self.assertEqual({type(x) for x in told}, {int})

    def test_thirty_calls(self):
        told = run(*[make(k % 3, *GROUPS[("two", "three", "four")[k % 3]]) for k in range(29)], call("size", 1))
        self.assertEqual(told, [[(2, 3, 4)[k % 3]] for k in range(29)] + [[3]])

    def test_thirty_long_calls(self):
        group = make(0, *GROUPS["icosahedron"])
        told = run(group, *[call("made", 0, list(range(60)))] * 29)
        self.assertEqual(told[1:], [[60] + list(range(60))] * 29)
        self.assertEqual(run(*[make(0, *GROUPS["icosahedron"])] * 30), [[60]] * 30)

    def test_rows_of_the_calls_do_not_run_into_one_another(self):
        told = run(
            call("made", 0, [1, 0, 3]), call("number", 2, [255] * 60), make(2, *GROUPS["two"]),
            call("make", 4, 5, [13] * 60), call("central", 2, []), call("size", 2),
        )
        self.assertEqual(told, [[-1], [-1], [2], [-1], [2, 0, 1], [2]])

    def test_the_list_is_as_it_was(self):
        handed = Unchangeable(ALL_CALLS)
        self.assertEqual(answers(handed), ALL_ANSWERS)
        self.assertEqual(list(handed), ALL_CALLS)

    def test_a_second_time_answers_as_the_first(self):
        calls = list(ALL_CALLS)
        first = answers(calls)
        kept = list(first)
        first.clear()
        self.assertEqual(answers(calls), kept)
        self.assertEqual(calls, ALL_CALLS)

    def test_nothing_is_kept(self):
        answers(make(0, *GROUPS["square"]))
        self.assertEqual(answers([2, 0]), [1, -1])

    def test_changing_what_was_answered_changes_nothing_else(self):
        asked = make(0, *GROUPS["square"]) + call("word", 0, 7) + call("made", 0, [1])
        told = answers(asked)
        kept = list(told)
        told[1] = 99
        self.assertEqual(answers(asked), kept)

    def test_nothing_is_printed(self):
        printed = io.StringIO()
        with contextlib.redirect_stdout(printed), contextlib.redirect_stderr(printed):
            answers(list(ALL_CALLS))
        self.assertEqual(printed.getvalue(), "")


if __name__ == "__main__":
    unittest.main()
