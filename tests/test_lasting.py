import itertools
import unittest

from tests.calls import ask, at, bars, height, heights_of, lasting, pairs, row_of, shape
from tests.shapes import HOLLOW, HOLLOW_OF_TETRAHEDRA, LARGER_SHAPES, RING, SMALL_SHAPES, holes_at_both

GREATEST = 4294967295


def over_twos(simplices, heights, asked):
    """What lasting answers for each two of heights that are asked for."""
    return ask(shape(*simplices), heights_of(*heights), *[lasting(*two) for two in asked])[2:]


class Ordinary(unittest.TestCase):
    def test_pieces_with_an_end_and_with_none(self):
        # One piece from 1 for ever, one from 3 to 8.
        asked = [(0, 7), (1, 7), (2, 7), (3, 7), (3, 8), (7, 7), (7, 8), (8, 9)]
        found = over_twos([(0, 1), (1, 2)], (1, 8, 3), asked)
        self.assertEqual([answer[0] for answer in found], [0, 1, 1, 2, 1, 2, 1, 1])
        self.assertEqual([answer[1:] for answer in found], [[0, 0, 0]] * 8)

    def test_one_that_ends_and_another_that_begins_meanwhile(self):
        # A piece from 2 to 4, another from 5 to 7, beside the one from 1 for ever.
        found = over_twos([(0, 2), (1, 2), (0, 4), (3, 4)], (1, 2, 4, 5, 7), [(3, 3), (3, 6), (6, 6)])
        self.assertEqual([answer[0] for answer in found], [2, 1, 2])

    def test_a_ring_with_an_end(self):
        simplices = [(0, 1, 4), (1, 2, 4), (2, 3, 4), (0, 3, 4)]
        found = over_twos(simplices, (1, 2, 3, 5, 9), [(4, 8), (5, 8), (5, 9), (8, 8), (8, 9), (9, 10)])
        self.assertEqual([answer[1] for answer in found], [0, 1, 0, 1, 0, 0])
        self.assertEqual([answer[0] for answer in found], [1] * 6)

    def test_a_ring_with_none(self):
        found = over_twos(RING, (1, 4, 2), [(3, 4), (4, 5), (4, GREATEST)])
        self.assertEqual(found, [[1, 0, 0, 0], [1, 1, 0, 0], [1, 1, 0, 0]])

    def test_a_hollow_with_an_end(self):
        found = over_twos([face + (4,) for face in HOLLOW], (1, 1, 2, 3, 6), [(2, 5), (3, 5), (3, 6), (5, 6)])
        self.assertEqual([answer[2] for answer in found], [0, 1, 0, 0])

    def test_a_hollow_with_none(self):
        found = over_twos(HOLLOW, (1, 1, 2, 3), [(2, 3), (3, 3), (3, GREATEST)])
        self.assertEqual(found, [[1, 0, 0, 0], [1, 0, 1, 0], [1, 0, 1, 0]])

    def test_dimension_3(self):
        found = over_twos(HOLLOW_OF_TETRAHEDRA, (1, 2, 3, 4, 5), [(0, 5), (4, 5), (5, 5), (5, GREATEST)])
        self.assertEqual(found, [[0, 0, 0, 0], [1, 0, 0, 0], [1, 0, 0, 1], [1, 0, 0, 1]])

    def test_the_holes_that_are_there_and_still_there(self):
        for simplices in SMALL_SHAPES:
            for heights in itertools.product((0, 1, 2), repeat=4):
                self.check(simplices, heights_of(*heights), heights, range(4))

    def test_larger_shapes(self):
        for simplices, heights in LARGER_SHAPES:
            self.check(simplices, height(*heights), heights, sorted(set(heights))[-7:])

    def check(self, simplices, call, heights, some):
        asked = list(itertools.combinations_with_replacement(some, 2))
        found = ask(shape(*simplices), call, *[lasting(*two) for two in asked])[2:]
        for two, answer in zip(asked, found):
            self.assertEqual(answer, [holes_at_both(simplices, heights, dimension, *two) for dimension in range(4)])


class Edges(unittest.TestCase):
    def test_nothing_there(self):
        nothing = [0, 0, 0, 0]
        found = ask(lasting(0, 0), lasting(0, GREATEST), shape(), lasting(3, 5))
        self.assertEqual(found, [nothing, nothing, [0], nothing])

    def test_both_alike_is_at(self):
        for simplices, heights in LARGER_SHAPES:
            some = sorted(set(heights))
            calls = [call for one in some for call in (at(one), lasting(one, one))]
            found = ask(shape(*simplices), height(*heights), *calls)[2:]
            self.assertEqual(found[0::2], found[1::2])

    def test_both_0_and_both_very_great(self):
        found = over_twos(RING, (0, 0, 0), [(0, 0), (0, GREATEST), (GREATEST, GREATEST)])
        self.assertEqual(found, [[1, 1, 0, 0]] * 3)

    def test_the_second_one_higher_is_not_lower(self):
        self.assertEqual(over_twos([(0,)], (4,), [(GREATEST - 1, GREATEST), (4, 5)]), [[1, 0, 0, 0]] * 2)

    def test_bars_of_no_length_are_nowhere(self):
        self.assertEqual(over_twos([(0, 1, 2, 3)], (5, 5, 5, 5), [(5, 5), (5, 6)]), [[1, 0, 0, 0]] * 2)


class Refused(unittest.TestCase):
    def test_the_second_is_lower(self):
        for first, second in [(1, 0), (5, 4), (8, 3), (1000, 999), (GREATEST, 0), (GREATEST, GREATEST - 1)]:
            with self.subTest(first=first, second=second):
                self.assertEqual(over_twos([(0, 1), (1, 2)], (1, 8, 3), [(first, second)]), [[-1]])

    def test_of_an_empty_shape(self):
        self.assertEqual(ask(lasting(1, 0)), [[-1]])

    def test_all_is_as_it_was(self):
        before = [shape((0, 1), (1, 2)), heights_of(1, 8, 3)]
        questions = [row_of(), pairs(), bars(0), at(3), lasting(3, 7)]
        untouched = ask(*before, *questions)[2:]
        for wrong in [lasting(7, 3), lasting(1, 0), lasting(GREATEST, 1)]:
            self.assertEqual(ask(*before, wrong, *questions)[3:], untouched)


if __name__ == "__main__":
    unittest.main()
