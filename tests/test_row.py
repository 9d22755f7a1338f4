import itertools
import unittest

from tests.calls import ask, height, heights_of, last, row_of, shape, simplices_in
from tests.shapes import LARGER_SHAPES, SMALL_SHAPES, expected_row


class Ordinary(unittest.TestCase):
    def test_by_when_they_come(self):
        row = last(shape((0, 1, 2)), heights_of(3, 1, 2), row_of())
        self.assertEqual(row, [7, 1, 1, 1, 2, 2, 1, 2, 1, 0, 2, 0, 1, 2, 0, 2, 3, 0, 1, 2])

    def test_at_one_height_as_in_order(self):
        row = last(shape((7, 2), (5, 3, 2), (9,)), row_of())
        expected = [(2,), (3,), (5,), (7,), (9,), (2, 3), (2, 5), (2, 7), (3, 5), (2, 3, 5)]
        self.assertEqual(simplices_in(row), expected)

    def test_fewer_corners_ahead_of_lesser_ones(self):
        row = last(shape((0, 1), (9,)), row_of())
        self.assertEqual(simplices_in(row), [(0,), (1,), (9,), (0, 1)])

    def test_the_first_place_that_differs_decides(self):
        row = simplices_in(last(shape((0, 8, 9), (1, 2, 3), (0, 8, 1)), row_of()))
        self.assertEqual(row[-3:], [(0, 1, 8), (0, 8, 9), (1, 2, 3)])

    def test_one_that_comes_earlier_is_ahead_of_one_with_fewer_corners(self):
        row = last(shape((1, 2), (0,)), heights_of(5, 1, 1), row_of())
        self.assertEqual(simplices_in(row), [(1,), (2,), (1, 2), (0,)])

    def test_up_to_four_corners(self):
        row = simplices_in(last(shape((3, 1, 2, 0)), heights_of(0, 0, 0, 1), row_of()))
        self.assertEqual(row[:7], [(0,), (1,), (2,), (0, 1), (0, 2), (1, 2), (0, 1, 2)])
        self.assertEqual(row[7:11], [(3,), (0, 3), (1, 3), (2, 3)])
        self.assertEqual(row[11:], [(0, 1, 3), (0, 2, 3), (1, 2, 3), (0, 1, 2, 3)])

    def test_all_small_heights(self):
        for simplices in SMALL_SHAPES:
            for heights in itertools.product((0, 1, 2), repeat=4):
                row = simplices_in(last(shape(*simplices), heights_of(*heights), row_of()))
                self.assertEqual(row, expected_row(simplices, heights))

    def test_larger_shapes(self):
        for simplices, heights in LARGER_SHAPES:
            row = simplices_in(last(shape(*simplices), height(*heights), row_of()))
            self.assertEqual(row, expected_row(simplices, heights))


class Edges(unittest.TestCase):
    def test_nothing_there(self):
        self.assertEqual(ask(row_of(), shape(), row_of()), [[0], [0], [0]])

    def test_heights_are_numbers_not_texts(self):
        row = last(shape((0,), (1,), (2,)), heights_of(1000, 9, 10), row_of())
        self.assertEqual(simplices_in(row), [(1,), (2,), (0,)])


if __name__ == "__main__":
    unittest.main()
