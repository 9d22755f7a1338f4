import contextlib
import inspect
import io
import sys
import unittest

from floodedshape.holes import answers
from tests.calls import (
    apart, ask, at, bars, height, heights_of, last, lasting, longest, pairs, partner, row_of, shape, simplices_in,
    swamped,
)
from tests.shapes import JUST_60, JUST_61, RING

# Every call, in mixed order; each refusal among them.
ALL_CALLS = (
    partner(0) + at(0) + shape((2, 0, 1), (3,), (3, 4), (4, 5)) + swamped(0) + height(5, 2, 7, 1, 9, 3, 0, 0, 0, 0)
    + longest(0) + row_of() + lasting(3, 6) + pairs() + bars(0) + partner(1, 2, 0) + bars(1) + at(6)
    + shape((0, 0)) + partner(3, 3) + height(1, 2) + lasting(6, 3) + shape(*JUST_61) + longest(4294967295)
    + bars(4294967295) + swamped(5) + partner(3) + partner(9, 3) + at(4294967295) + longest(1)
)


class TheList(unittest.TestCase):
    def test_calls_and_answers_number_by_number(self):
        calls = [
            0, 0, 2, 2, 1, 0, 1, 2,
            1, 10, 4, 6, 5, 0, 0, 0, 0, 0, 0, 0, 0,
            2, 0, 0,
            3, 0, 0,
            4, 1, 0, 0,
            0, 0, 1, 0,
            1, 0, 0,
            5, 1, 5, 0,
            6, 2, 4, 6, 0,
            6, 2, 6, 4, 0,
            7, 1, 0, 0,
            8, 1, 6, 0,
            9, 2, 1, 0, 0,
            9, 1, 1, 0,
            9, 1, 0, 0,
            9, 0, 0,
            9, 1, 7, 0,
            0, 0, 2, 2, 0, 1, 2, 1, 2,
            1, 10, 1, 8, 3, 0, 0, 0, 0, 0, 0, 0, 0,
            7, 1, 0, 0,
        ]
        expected = [
            1, 4,
            1, 2,
            10, 4, 1, 0, 1, 2, 1, 1, 2, 0, 1,
            3, 1, 2, 3,
            5, 2, 4, -1, 5, -1,
            1, -1,
            1, -1,
            4, 2, 0, 0, 0,
            4, 1, 0, 0, 0,
            1, -1,
            1, -6,
            6, 2, 1, 2, 2, 0, 1,
            2, 2, 1,
            3, 1, 0, 1,
            1, 0,
            1, -1,
            1, -3,
            1, 5,
            1, 2,
            3, 5, 3, 8,
        ]
        self.assertEqual(answers(calls), expected)

    def test_one_call_alone(self):
        self.assertEqual(answers([2, 0, 0]), [1, 0])
        self.assertEqual(answers([3, 0, 0]), [1, 0])
        self.assertEqual(answers([4, 1, 0, 0]), [1, 0])
        self.assertEqual(answers([0, 0, 0]), [1, 0])
        self.assertEqual(answers([1] + [10] + [0] * 10 + [0]), [1, 0])
        self.assertEqual(answers([5, 1, 0, 0]), [4, 0, 0, 0, 0])
        self.assertEqual(answers([6, 2, 0, 0, 0]), [4, 0, 0, 0, 0])
        self.assertEqual(answers([7, 1, 0, 0]), [1, -6])
        self.assertEqual(answers([8, 1, 0, 0]), [1, 0])
        self.assertEqual(answers([9, 1, 0, 0]), [1, -3])

    def test_a_refusal_is_alone(self):
        self.assertEqual(answers([0, 0, 1, 1, 10]), [1, -1])
        self.assertEqual(answers([1, 0, 0]), [1, -1])
        self.assertEqual(answers(shape(*JUST_61)), [1, -2])
        self.assertEqual(answers([6, 2, 1, 0, 0]), [1, -1])
        self.assertEqual(answers([9, 6, 0, 1, 2, 3, 4, 5, 0]), [1, -1])

    def test_all_ten_calls_in_mixed_order(self):
        found = apart(answers(list(ALL_CALLS)))
        row = [(3,), (1,), (5,), (0,), (0, 1), (2,), (0, 2), (1, 2), (0, 1, 2), (4,), (3, 4), (4, 5)]
        self.assertEqual(simplices_in(found.pop(6)), row)
        expected = [
            [-3], [0, 0, 0, 0], [12], [3, 2, 3, 4, 2, 4, 5, 3, 0, 1, 2], [3],
            [6, 3, 9], [3, 0, 0, 0], [5, 3, 4, 5, 6, 7, 8, 9, 10, 2, 11], [3, 1, -1, 2, -1, 3, 9], [2, 1, 2], [0],
            [3, 0, 0, 0],
            [-1], [-1], [-1], [-1], [-2], [-6],
            [0], [3, 1, 3, 1, 5, 2, 0, 1], [0], [-3], [2, 0, 0, 0], [-6],
        ]
        self.assertEqual(found, expected)

    def test_forty_calls(self):
        rounds = [shape(*RING), heights_of(3, 1, 2), row_of(), pairs(), bars(0), bars(1), shape((4, 4)), height(1)]
        self.assertEqual(ask(*rounds * 5), ask(*rounds) * 5)
        others = [at(2), lasting(2, 3), lasting(3, 2), longest(0), swamped(2), partner(2, 0), partner(4), partner(11)]
        self.assertEqual(ask(*(rounds[:2] + others) * 4), ask(*rounds[:2], *others) * 4)

    def test_a_list_about_as_long_as_may_be(self):
        six_corners = shape(*[(0, 1, 2, 3, 4, 5)] * 60)
        calls = six_corners * 38 + shape(*JUST_60) + row_of()
        self.assertGreater(len(calls), 16000)
        found = apart(answers(calls))
        self.assertEqual(found[:39], [[-1]] * 38 + [[60]])
        self.assertEqual(found[39][0], 60)

    def test_forty_times_the_most_simplices(self):
        calls = (shape(*JUST_60) + height(*range(10))) + (pairs() + row_of()) * 19
        found = apart(answers(calls))
        self.assertEqual(len(found), 40)
        self.assertEqual(found[2::2], [found[2]] * 19)


class NothingKept(unittest.TestCase):
    def test_the_list_is_as_it_was(self):
        calls = list(ALL_CALLS)
        answers(calls)
        self.assertEqual(calls, ALL_CALLS)

    def test_the_same_again(self):
        calls = list(ALL_CALLS)
        first = answers(calls)
        kept = list(first)
        self.assertEqual(answers(calls), kept)
        self.assertEqual(first, kept)

    def test_each_list_begins_anew(self):
        answers(shape((0, 1)) + height(*range(1, 11)))
        self.assertEqual(answers(row_of()), [1, 0])
        self.assertEqual(last(shape((0,), (9,)), bars(0)), [2, 0, -1, 0, -1])

    def test_what_is_given_back_is_free_to_be_changed(self):
        calls = list(ALL_CALLS)
        first = answers(calls)
        kept = list(first)
        first.clear()
        self.assertEqual(answers(calls), kept)
        self.assertEqual(calls, ALL_CALLS)


class Kinds(unittest.TestCase):
    def test_whole_numbers_in_a_list(self):
        found = answers(list(ALL_CALLS))
        self.assertIs(type(found), list)
        self.assertEqual({type(number) for number in found}, {int})

    def test_nothing_is_printed(self):
        out = io.StringIO()
        with contextlib.redirect_stdout(out), contextlib.redirect_stderr(out):
            answers(list(ALL_CALLS))
        self.assertEqual(out.getvalue(), "")

    def test_calls_do_not_nest_with_the_input(self):
        limit = sys.getrecursionlimit()
        sys.setrecursionlimit(len(inspect.stack()) + 30)
        try:
            asked = pairs() * 30 + at(5) + lasting(3, 7) + longest(1) + swamped(8) + partner(7, 8) + bars(1) * 3
            found = answers(shape(*JUST_60) + height(*range(10)) + asked)
        finally:
            sys.setrecursionlimit(limit)
        self.assertEqual(len(apart(found)), 40)


if __name__ == "__main__":
    unittest.main()
