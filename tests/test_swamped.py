import itertools
import unittest

from tests.calls import ask, height, heights_of, last, row_of, shape, simplices_in, swamped
from tests.shapes import HOLLOW_OF_TETRAHEDRA, LARGER_SHAPES, RING, SMALL_SHAPES, closed, coming

GREATEST = 4294967295


def expected_swamped(simplices, heights, asked):
    there = [one for one in closed(simplices) if coming(one, heights) <= asked]
    greatest = [one for one in there if not any(set(one) < set(other) for other in there)]
    return sorted(greatest, key=lambda one: (len(one), one))


class Ordinary(unittest.TestCase):
    def test_faces_of_others_are_left_out(self):
        self.assertEqual(last(shape((0, 1, 2), (2, 3), (4,)), swamped(0)), [3, 1, 4, 2, 2, 3, 3, 0, 1, 2])

    def test_a_greater_one_is_not_there_yet(self):
        asked = [swamped(one) for one in [0, 1, 2, 3, 4]]
        found = ask(shape((0, 1, 2, 3)), heights_of(1, 2, 3, 4), *asked)[2:]
        self.assertEqual(found, [[0], [1, 1, 0], [1, 2, 0, 1], [1, 3, 0, 1, 2], [1, 4, 0, 1, 2, 3]])

    def test_in_order_not_in_the_row(self):
        # By the row corner 7 comes last, and the edge 89 ahead of the edge 01.
        found = ask(shape((8, 9), (0, 1), (7,)), height(5, 5, 0, 0, 0, 0, 0, 6, 1, 1), swamped(6), row_of())
        self.assertEqual(found[2], [3, 1, 7, 2, 0, 1, 2, 8, 9])
        self.assertEqual(simplices_in(found[3])[-1], (7,))

    def test_corners_rise(self):
        self.assertEqual(last(shape((9, 4, 6, 1)), swamped(0)), [1, 4, 1, 4, 6, 9])

    def test_faces_in_common(self):
        found = simplices_in(last(shape(*HOLLOW_OF_TETRAHEDRA), heights_of(0, 0, 0, 0, 1), swamped(1)))
        self.assertEqual(found, HOLLOW_OF_TETRAHEDRA)
        self.assertEqual(last(shape((0, 1, 2), (1, 2, 3)), swamped(0)), [2, 3, 0, 1, 2, 3, 1, 2, 3])

    def test_faces_that_were_told_too(self):
        self.assertEqual(last(shape((0,), (0, 1), (1, 0, 2), (2,)), swamped(0)), [1, 3, 0, 1, 2])

    def test_all_small_heights(self):
        for simplices in SMALL_SHAPES:
            for heights in itertools.product((0, 1, 2), repeat=4):
                found = ask(shape(*simplices), heights_of(*heights), *[swamped(one) for one in range(3)])[2:]
                for one, answer in enumerate(found):
                    self.assertEqual(simplices_in(answer), expected_swamped(simplices, heights, one))

    def test_larger_shapes(self):
        for simplices, heights in LARGER_SHAPES:
            asked = sorted(set(heights))
            found = ask(shape(*simplices), height(*heights), *[swamped(one) for one in asked])[2:]
            for one, answer in zip(asked, found):
                self.assertEqual(simplices_in(answer), expected_swamped(simplices, heights, one))


class Edges(unittest.TestCase):
    def test_nothing_there(self):
        self.assertEqual(ask(swamped(0), swamped(GREATEST), shape(), swamped(5)), [[0], [0], [0], [0]])

    def test_below_all_heights_that_come(self):
        found = ask(shape((0, 1), (2,)), heights_of(4, 3, 5), swamped(0), swamped(2), swamped(3))
        self.assertEqual(found[2:], [[0], [0], [1, 1, 1]])

    def test_a_very_great_height(self):
        found = ask(shape(*RING), heights_of(1000, 1, 2), swamped(999), swamped(1000), swamped(GREATEST))
        ring = [3, 2, 0, 1, 2, 0, 2, 2, 1, 2]
        self.assertEqual(found[2:], [[1, 2, 1, 2], ring, ring])

    def test_changes_nothing(self):
        found = ask(shape((0, 1), (2,)), heights_of(4, 3, 5), row_of(), swamped(3), swamped(0), row_of(), swamped(5))
        self.assertEqual(found[2], found[5])
        self.assertEqual(found[6], [2, 1, 2, 2, 0, 1])


if __name__ == "__main__":
    unittest.main()
