import itertools
import unittest

from tests.calls import ask, height, heights_of, last, pairs, row_of, shape, simplices_in, twos_in
from tests.shapes import HOLLOW, LARGER_SHAPES, RING, SMALL_SHAPES, expected_pairs, expected_row


class Ordinary(unittest.TestCase):
    def test_an_edge_joins_the_later_piece(self):
        # The row: corner 1, corner 0, the edge.
        self.assertEqual(last(shape((0, 1)), heights_of(5, 2), pairs()), [1, 1, 2])

    def test_a_ring_that_is_not_filled(self):
        # The row: three corners, the edges 01, 02, 12; the last edge bears and nothing fills that.
        self.assertEqual(last(shape(*RING), pairs()), [2, 1, 3, 2, 4])

    def test_a_ring_that_is_filled(self):
        self.assertEqual(last(shape((0, 1, 2)), pairs()), [3, 1, 3, 2, 4, 5, 6])

    def test_a_hollow_and_its_filling(self):
        hollow = [1, 4, 2, 5, 3, 6, 7, 10, 8, 11, 9, 12]
        self.assertEqual(last(shape(*HOLLOW), pairs()), [6] + hollow)
        self.assertEqual(last(shape((0, 1, 2, 3)), pairs()), [7] + hollow + [13, 14])

    def test_in_the_order_of_the_one_that_fills(self):
        # The bearers come in another order than the fillers.
        found = ask(shape((0, 3), (2, 3), (1, 2)), heights_of(0, 1, 2, 3), row_of(), pairs())
        self.assertEqual(simplices_in(found[2]), [(0,), (1,), (2,), (1, 2), (3,), (0, 3), (2, 3)])
        self.assertEqual(found[3], [3, 2, 3, 4, 5, 1, 6])

    def test_what_was_kept_is_added(self):
        # The edge 23 meets kept ones more than once before it joins two pieces.
        found = ask(shape((0, 2), (1, 3), (2, 3)), pairs())
        self.assertEqual(found[1], [3, 2, 4, 3, 5, 1, 6])

    def test_pairs_of_no_length_are_pairs(self):
        self.assertEqual(last(shape((4, 6)), height(*[7] * 10), pairs()), [1, 1, 2])

    def test_all_small_heights(self):
        for simplices in SMALL_SHAPES:
            for heights in itertools.product((0, 1, 2), repeat=4):
                found = twos_in(last(shape(*simplices), heights_of(*heights), pairs()))
                self.assertEqual(found, expected_pairs(expected_row(simplices, heights)))

    def test_larger_shapes(self):
        for simplices, heights in LARGER_SHAPES:
            found = twos_in(last(shape(*simplices), height(*heights), pairs()))
            self.assertEqual(found, expected_pairs(expected_row(simplices, heights)))


class Edges(unittest.TestCase):
    def test_nothing_there(self):
        self.assertEqual(ask(pairs(), shape(), pairs()), [[0], [0], [0]])

    def test_corners_alone(self):
        self.assertEqual(last(shape(*[(corner,) for corner in range(10)]), pairs()), [0])


if __name__ == "__main__":
    unittest.main()
