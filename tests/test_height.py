import unittest

from tests.calls import ask, bars, height, heights_of, last, pairs, row_of, shape
from tests.shapes import HOLLOW, RING, SMALL_SHAPES

GOOD = [1, 2, 3, 4, 5, 6, 7, 8, 9, 10]
WRONG_HEIGHTS = [
    [],
    [0],
    GOOD[:9],
    GOOD + [11],
    GOOD + [11, 12],
    [-1] + GOOD[1:],
    GOOD[:9] + [-1],
    [1001] + GOOD[1:],
    GOOD[:9] + [1001],
    GOOD[:4] + [-4294967295] + GOOD[5:],
    GOOD[:4] + [4294967295] + GOOD[5:],
    GOOD[:8] + [1001],
    GOOD + [-1],
]


class Ordinary(unittest.TestCase):
    def test_counts_bars_of_all_dimensions(self):
        # Two pieces for ever, and a ring for ever.
        self.assertEqual(last(shape(*(RING + [(5,)])), heights_of(1, 2, 3)), [3])
        # One piece for ever, one hollow for ever.
        self.assertEqual(last(shape(*HOLLOW), heights_of(1, 2, 3, 4)), [2])

    def test_counts_bars_that_end(self):
        # The piece that begins at corner 2 is joined when the edges to corner 1 come.
        self.assertEqual(last(shape((0, 1), (1, 2)), heights_of(0, 5, 3)), [2])

    def test_bars_of_no_length_do_not_count(self):
        self.assertEqual(last(shape((0, 1, 2, 3)), heights_of(4, 3, 2, 1)), [1])
        self.assertEqual(last(shape((0, 1), (1, 2)), heights_of(5, 5, 5)), [1])

    def test_as_many_as_the_bars_tell(self):
        for simplices in SMALL_SHAPES:
            for heights in [(0, 0, 0, 0), (3, 1, 2, 0), (2, 5, 2, 5), (0, 1000, 0, 1000)]:
                found = ask(shape(*simplices), heights_of(*heights), bars(0), bars(1), bars(2), bars(3))
                self.assertEqual(found[1], [sum(answer[0] for answer in found[2:])])

    def test_the_later_heights_hold(self):
        found = ask(shape((0,)), heights_of(5), bars(0), heights_of(8), bars(0))
        self.assertEqual(found[1:], [[1], [1, 5, -1], [1], [1, 8, -1]])

    def test_each_corner_has_its_own(self):
        corners = [(corner,) for corner in range(10)]
        heights = [900, 0, 1000, 13, 13, 7, 500, 2, 999, 1]
        rising = sorted(range(10), key=lambda corner: (heights[corner], corner))
        found = ask(shape(*corners), height(*heights), row_of(), bars(0))
        self.assertEqual(found[1], [10])
        self.assertEqual(found[2], [10] + [number for corner in rising for number in (1, corner)])
        self.assertEqual(found[3], [10] + [number for corner in rising for number in (heights[corner], -1)])


class Edges(unittest.TestCase):
    def test_an_empty_shape_has_no_bars(self):
        self.assertEqual(ask(height(*GOOD)), [[0]])

    def test_ahead_of_shape(self):
        found = ask(height(*GOOD), shape((2,), (0,)), bars(0))
        self.assertEqual(found, [[0], [2], [2, 1, -1, 3, -1]])

    def test_all_are_0_at_first(self):
        self.assertEqual(last(shape((0,), (9,)), bars(0)), [2, 0, -1, 0, -1])

    def test_the_outermost_heights(self):
        found = ask(shape((0, 1), (1, 2)), heights_of(0, 1000, 0), bars(0), height(*[1000] * 10), bars(0))
        self.assertEqual(found[1:], [[2], [2, 0, -1, 0, 1000], [1], [1, 1000, -1]])


class Refused(unittest.TestCase):
    def test_each_wrong_telling(self):
        for wrong in WRONG_HEIGHTS:
            with self.subTest(wrong=wrong):
                self.assertEqual(last(shape((0, 1)), height(*wrong)), [-1])

    def test_each_place(self):
        for place in range(10):
            for wrong in [-1, 1001]:
                self.assertEqual(last(height(*(GOOD[:place] + [wrong] + GOOD[place + 1:]))), [-1])

    def test_all_is_as_it_was(self):
        before = [shape((0, 1), (1, 2), (9,)), height(4, 9, 6, 0, 0, 0, 0, 0, 0, 3)]
        questions = [row_of(), pairs(), bars(0)]
        untouched = ask(*before, *questions)[2:]
        for wrong in WRONG_HEIGHTS:
            with self.subTest(wrong=wrong):
                self.assertEqual(ask(*before, height(*wrong), *questions)[3:], untouched)

    def test_heights_at_first_stay(self):
        for wrong in WRONG_HEIGHTS:
            with self.subTest(wrong=wrong):
                self.assertEqual(last(height(*wrong), shape((0,), (4,), (9,)), bars(0)), [3, 0, -1, 0, -1, 0, -1])


if __name__ == "__main__":
    unittest.main()
