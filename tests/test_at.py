import itertools
import unittest

from tests.calls import ask, at, bars, height, heights_of, last, shape, twos_in
from tests.shapes import HOLLOW, HOLLOW_OF_TETRAHEDRA, LARGER_SHAPES, RING, SMALL_SHAPES, holes_at_both

GREATEST = 4294967295


def over_heights(simplices, heights, asked):
    """What at answers for each height that is asked for."""
    return ask(shape(*simplices), heights_of(*heights), *[at(one) for one in asked])[2:]


class Ordinary(unittest.TestCase):
    def test_pieces_with_an_end_and_with_none(self):
        # One piece from 1 for ever, one from 3 to 8.
        found = over_heights([(0, 1), (1, 2)], (1, 8, 3), [0, 1, 2, 3, 7, 8, 9])
        self.assertEqual([answer[0] for answer in found], [0, 1, 1, 2, 2, 1, 1])
        self.assertEqual([answer[1:] for answer in found], [[0, 0, 0]] * 7)

    def test_a_ring_with_an_end(self):
        # A ring 0, 1, 2, 3 around corner 4, which fills it.
        found = over_heights([(0, 1, 4), (1, 2, 4), (2, 3, 4), (0, 3, 4)], (1, 2, 3, 5, 9), [4, 5, 8, 9])
        self.assertEqual(found, [[1, 0, 0, 0], [1, 1, 0, 0], [1, 1, 0, 0], [1, 0, 0, 0]])

    def test_a_ring_with_none(self):
        found = over_heights(RING, (1, 4, 2), [3, 4, 1000, GREATEST])
        self.assertEqual(found, [[1, 0, 0, 0], [1, 1, 0, 0], [1, 1, 0, 0], [1, 1, 0, 0]])

    def test_a_hollow_with_an_end(self):
        found = over_heights([face + (4,) for face in HOLLOW], (1, 1, 2, 3, 6), [2, 3, 5, 6])
        self.assertEqual(found, [[1, 0, 0, 0], [1, 0, 1, 0], [1, 0, 1, 0], [1, 0, 0, 0]])

    def test_a_hollow_with_none(self):
        found = over_heights(HOLLOW, (1, 1, 2, 3), [2, 3, GREATEST])
        self.assertEqual(found, [[1, 0, 0, 0], [1, 0, 1, 0], [1, 0, 1, 0]])

    def test_dimension_3(self):
        found = over_heights(HOLLOW_OF_TETRAHEDRA, (1, 2, 3, 4, 5), [0, 4, 5, GREATEST])
        self.assertEqual(found, [[0, 0, 0, 0], [1, 0, 0, 0], [1, 0, 0, 1], [1, 0, 0, 1]])

    def test_several_dimensions_at_once(self):
        # Apart from one another: a hollow of tetrahedra, two rings with an edge in common, and a corner.
        rings = [(5, 6), (5, 7), (6, 7), (5, 8), (6, 8)]
        found = ask(shape(*(HOLLOW_OF_TETRAHEDRA + rings + [(9,)])), height(*range(10)), at(6), at(7), at(8), at(9))
        self.assertEqual(found[2:], [[2, 0, 0, 1], [2, 1, 0, 1], [2, 2, 0, 1], [3, 2, 0, 1]])

    def test_the_holes_of_what_is_there(self):
        for simplices in SMALL_SHAPES:
            for heights in itertools.product((0, 1, 2), repeat=4):
                self.check(simplices, heights_of(*heights), heights, range(4))

    def test_larger_shapes(self):
        for simplices, heights in LARGER_SHAPES:
            self.check(simplices, height(*heights), heights, range(12))

    def check(self, simplices, call, heights, asked):
        found = ask(shape(*simplices), call, *[at(one) for one in asked])[2:]
        for one, answer in zip(asked, found):
            expected = [holes_at_both(simplices, heights, dimension, one, one) for dimension in range(4)]
            self.assertEqual(answer, expected)

    def test_as_many_as_bars_tells(self):
        for simplices, heights in LARGER_SHAPES:
            told = [twos_in(last(shape(*simplices), height(*heights), bars(dimension))) for dimension in range(4)]
            for one in sorted(set(heights)):
                expected = [len([1 for begin, end in of if begin <= one and (end == -1 or one < end)]) for of in told]
                self.assertEqual(last(shape(*simplices), height(*heights), at(one)), expected)


class Edges(unittest.TestCase):
    def test_nothing_there(self):
        nothing = [0, 0, 0, 0]
        found = ask(at(0), at(GREATEST), shape(), at(0), at(1000))
        self.assertEqual(found, [nothing, nothing, [0], nothing, nothing])

    def test_at_0(self):
        self.assertEqual(over_heights([(0,), (1,)], (0, 1), [0]), [[1, 0, 0, 0]])
        self.assertEqual(over_heights([(0,), (1,)], (1, 1), [0]), [[0, 0, 0, 0]])

    def test_about_the_greatest_height_of_a_corner(self):
        found = over_heights([(0, 1), (1, 2)], (0, 1000, 999), [998, 999, 1000, 1001, GREATEST])
        self.assertEqual([answer[0] for answer in found], [1, 2, 1, 1, 1])

    def test_bars_of_no_length_are_nowhere(self):
        self.assertEqual(over_heights([(0, 1, 2, 3)], (5, 5, 5, 5), [4, 5, 6]), [[0] * 4, [1, 0, 0, 0], [1, 0, 0, 0]])

    def test_changes_nothing(self):
        found = ask(shape(*RING), heights_of(1, 4, 2), at(4), at(0), at(GREATEST), at(4), bars(1))
        self.assertEqual(found[2], found[5])
        self.assertEqual(found[6], [1, 4, -1])


if __name__ == "__main__":
    unittest.main()
