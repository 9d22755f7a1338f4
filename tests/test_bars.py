import itertools
import unittest

from tests.calls import ask, bars, height, heights_of, last, shape, twos_in
from tests.shapes import HOLLOW, LARGER_SHAPES, RING, SMALL_SHAPES, holes_at_both


def at_both(found, first, second):
    return len([1 for begin, end in found if begin <= first and (end == -1 or end > second)])


class Ordinary(unittest.TestCase):
    def test_a_piece_that_joins_another(self):
        found = ask(shape((0, 1), (1, 2)), heights_of(1, 8, 3), bars(0), bars(1))
        self.assertEqual(found[2:], [[2, 1, -1, 3, 8], [0]])

    def test_a_ring_that_closes_and_is_not_filled(self):
        self.assertEqual(last(shape(*RING), heights_of(1, 4, 2), bars(1)), [1, 4, -1])

    def test_a_ring_that_is_filled(self):
        # A ring 0, 1, 2, 3 around corner 4, which comes last and fills it.
        simplices = [(0, 1, 4), (1, 2, 4), (2, 3, 4), (0, 3, 4)]
        found = ask(shape(*simplices), heights_of(1, 2, 3, 5, 9), bars(0), bars(1), bars(2))
        self.assertEqual(found[2:], [[1, 1, -1], [1, 5, 9], [0]])

    def test_a_hollow_that_is_filled_and_one_that_is_not(self):
        # Around corner 4 the hollow of the others is filled when 4 comes.
        simplices = [face + (4,) for face in HOLLOW]
        found = ask(shape(*simplices), heights_of(1, 1, 2, 3, 6), bars(2), shape(*HOLLOW), bars(2))
        self.assertEqual([found[2], found[4]], [[1, 3, 6], [1, 3, -1]])

    def test_no_length_is_left_out(self):
        found = ask(shape((0, 1, 2, 3)), bars(0), bars(1), bars(2), bars(3))
        self.assertEqual(found[1:], [[1, 0, -1], [0], [0], [0]])

    def test_in_the_order_of_those_that_bear(self):
        # The piece of corner 1 ends later than that of corner 2, yet stands first.
        found = last(shape((0, 4), (2, 4), (1, 5), (0, 5)), heights_of(0, 1, 2, 3, 4, 5), bars(0))
        self.assertEqual(found, [3, 0, -1, 1, 5, 2, 4])

    def test_at_one_height_in_the_order_of_the_row(self):
        # Corners 0, 1 and 2 come at once; the piece of corner 1 ends at 9, that of corner 2 at 4.
        found = last(shape((0, 3), (2, 3), (1, 4), (0, 4)), heights_of(0, 0, 0, 4, 9), bars(0))
        self.assertEqual(found, [3, 0, -1, 0, 9, 0, 4])

    def test_as_many_as_are_there_at_one_height_and_still_at_another(self):
        for simplices in SMALL_SHAPES:
            for heights in itertools.product((0, 1, 2), repeat=4):
                found = ask(shape(*simplices), heights_of(*heights), *[bars(k) for k in range(4)])[2:]
                self.check_holes(simplices, heights, found)

    def test_larger_shapes(self):
        for simplices, heights in LARGER_SHAPES:
            found = ask(shape(*simplices), height(*heights), *[bars(k) for k in range(4)])[2:]
            self.check_holes(simplices, heights, found)

    def check_holes(self, simplices, heights, found):
        for dimension, answer in enumerate(found):
            told = twos_in(answer)
            self.assertEqual([begin for begin, end in told], sorted(begin for begin, end in told))
            self.assertTrue(all(end == -1 or end > begin for begin, end in told))
            for first, second in itertools.combinations_with_replacement(sorted(set(heights)), 2):
                expected = holes_at_both(simplices, heights, dimension, first, second)
                self.assertEqual(at_both(told, first, second), expected)


class Edges(unittest.TestCase):
    def test_nothing_there(self):
        self.assertEqual(ask(bars(0), bars(1), shape(), bars(0)), [[0], [0], [0], [0]])

    def test_a_dimension_that_the_shape_has_no_simplex_of(self):
        for dimension in [2, 3, 4, 5, 10, 60, 1001, 4294967295]:
            self.assertEqual(last(shape(*RING), bars(dimension)), [0])

    def test_a_beginning_of_0_and_an_end_of_1000(self):
        found = last(shape((0, 1), (1, 2)), heights_of(0, 1000, 999), bars(0))
        self.assertEqual(found, [2, 0, -1, 999, 1000])


if __name__ == "__main__":
    unittest.main()
