import itertools
import unittest

from tests.calls import ask, bars, height, heights_of, last, pairs, partner, row_of, shape, swamped
from tests.shapes import (
    HOLLOW, HOLLOW_OF_TETRAHEDRA, LARGER_SHAPES, RING, SMALL_SHAPES, WRONG_SIMPLICES, expected_pairs, expected_row,
)


def expected_partners(row):
    """What partner answers of each simplex of the row."""
    found = {simplex: [0] for simplex in row}
    for low, high in expected_pairs(row):
        found[row[low]] = [1] + list(row[high])
        found[row[high]] = [2] + list(row[low])
    return found


class Ordinary(unittest.TestCase):
    def test_one_that_bears_and_is_filled(self):
        self.assertEqual(last(shape((0, 1), (1, 2)), heights_of(1, 8, 3), partner(2)), [1, 1, 2])

    def test_one_that_fills(self):
        self.assertEqual(last(shape((0, 1), (1, 2)), heights_of(1, 8, 3), partner(1, 2)), [2, 2])

    def test_one_that_bears_and_nothing_fills_that(self):
        self.assertEqual(last(shape((0, 1), (1, 2)), heights_of(1, 8, 3), partner(0)), [0])
        self.assertEqual(last(shape(*RING), heights_of(1, 4, 2), partner(1, 2)), [0])
        self.assertEqual(last(shape(*HOLLOW), partner(1, 2, 3)), [0])
        self.assertEqual(last(shape(*HOLLOW_OF_TETRAHEDRA), partner(1, 2, 3, 4)), [0])

    def test_up_to_four_corners(self):
        # Around corner 4 the hollow of the others is filled when 4 comes.
        before = [shape(*[face + (4,) for face in HOLLOW]), heights_of(1, 1, 2, 3, 6)]
        self.assertEqual(last(*before, partner(1, 2, 3)), [1, 1, 2, 3, 4])
        self.assertEqual(last(*before, partner(1, 2, 3, 4)), [2, 1, 2, 3])

    def test_pairs_of_no_length_are_pairs(self):
        found = ask(shape((4, 6)), height(*[7] * 10), partner(4), partner(6), partner(4, 6))
        self.assertEqual(found[2:], [[0], [1, 4, 6], [2, 6]])

    def test_whatever_order_of_corners(self):
        before = [shape(*[face + (9,) for face in HOLLOW]), height(1, 1, 2, 3, 0, 0, 0, 0, 0, 6)]
        for corners in [(1, 2, 3), (1, 2, 3, 9), (9, 0), (2, 1)]:
            rising = last(*before, partner(*sorted(corners)))
            for told in itertools.permutations(corners):
                self.assertEqual(last(*before, partner(*told)), rising)

    def test_the_heights_decide(self):
        found = ask(shape((0, 1)), heights_of(2, 1), partner(0), partner(1), heights_of(1, 2), partner(0), partner(1))
        self.assertEqual(found[2:4], [[1, 0, 1], [0]])
        self.assertEqual(found[5:], [[0], [1, 0, 1]])

    def test_all_small_heights(self):
        for simplices in SMALL_SHAPES:
            for heights in itertools.product((0, 1, 2), repeat=4):
                self.check(simplices, heights_of(*heights), expected_row(simplices, heights))

    def test_larger_shapes(self):
        for simplices, heights in LARGER_SHAPES:
            self.check(simplices, height(*heights), expected_row(simplices, heights))

    def check(self, simplices, call, row):
        expected = expected_partners(row)
        # A list has at most 40 calls.
        for start in range(0, len(row), 38):
            some = row[start:start + 38]
            found = ask(shape(*simplices), call, *[partner(*simplex) for simplex in some])[2:]
            self.assertEqual(found, [expected[simplex] for simplex in some])


class Edges(unittest.TestCase):
    def test_one_corner_alone(self):
        self.assertEqual(last(shape((0,), (9,)), partner(9)), [0])

    def test_the_outermost_corners(self):
        self.assertEqual(last(shape((9, 0)), partner(9, 0)), [2, 9])

    def test_after_another_shape(self):
        found = ask(shape((0, 1)), partner(0, 1), shape((1, 2)), partner(0, 1), partner(2, 1))
        self.assertEqual(found, [[3], [2, 1], [3], [-3], [2, 2]])


class Refused(unittest.TestCase):
    def test_no_simplex(self):
        for wrong in WRONG_SIMPLICES:
            with self.subTest(wrong=wrong):
                self.assertEqual(last(shape((0, 1, 2, 3), (9,)), partner(*wrong)), [-1])

    def test_no_simplex_ahead_of_not_there(self):
        for wrong in WRONG_SIMPLICES:
            with self.subTest(wrong=wrong):
                self.assertEqual(ask(partner(*wrong)), [[-1]])

    def test_not_there(self):
        for absent in [(3,), (0, 3), (9, 1), (0, 1, 2), (2, 1, 0), (0, 1, 2, 3), (6, 7, 8, 9)]:
            with self.subTest(absent=absent):
                self.assertEqual(last(shape(*RING), partner(*absent)), [-3])

    def test_nothing_is_there_in_an_empty_shape(self):
        found = ask(partner(0), shape(), partner(0, 1), partner(9, 8, 7, 6))
        self.assertEqual(found, [[-3], [0], [-3], [-3]])

    def test_all_is_as_it_was(self):
        before = [shape((0, 1), (1, 2)), heights_of(4, 2, 6)]
        questions = [row_of(), pairs(), bars(0), swamped(4), partner(2)]
        untouched = ask(*before, *questions)[2:]
        for wrong in WRONG_SIMPLICES:
            self.assertEqual(ask(*before, partner(*wrong), *questions)[2:], [[-1]] + untouched)
        for absent in [(3,), (2, 0), (0, 1, 2)]:
            self.assertEqual(ask(*before, partner(*absent), *questions)[2:], [[-3]] + untouched)


if __name__ == "__main__":
    unittest.main()
