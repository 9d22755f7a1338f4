import itertools
import unittest

from tests.calls import ask, at, bars, height, heights_of, last, longest, pairs, row_of, shape, twos_in
from tests.shapes import HOLLOW, HOLLOW_OF_TETRAHEDRA, LARGER_SHAPES, RING, SMALL_SHAPES


def expected_longest(told):
    """What longest answers where bars tells these."""
    best = [-6]
    for begin, end in told:
        if end != -1 and end - begin > best[0]:
            best = [end - begin, begin, end]
    return best


class Ordinary(unittest.TestCase):
    def test_one_that_ends(self):
        self.assertEqual(last(shape((0, 1), (1, 2)), heights_of(1, 8, 3), longest(0)), [5, 3, 8])

    def test_of_unlike_length(self):
        # Pieces from 1 to 5 and from 2 to 4; then from 1 to 4 and from 2 to 9.
        simplices = [(0, 4), (2, 4), (1, 5), (0, 5)]
        self.assertEqual(last(shape(*simplices), heights_of(0, 1, 2, 3, 4, 5), longest(0)), [4, 1, 5])
        simplices = [(0, 4), (1, 4), (2, 5), (0, 5)]
        self.assertEqual(last(shape(*simplices), heights_of(0, 1, 2, 3, 4, 9), longest(0)), [7, 2, 9])

    def test_of_as_long_ones_the_first(self):
        # Pieces from 1 to 4 and from 2 to 5.
        found = ask(shape((0, 4), (1, 4), (2, 5), (0, 5)), heights_of(0, 1, 2, 3, 4, 5), bars(0), longest(0))
        self.assertEqual(found[2:], [[3, 0, -1, 1, 4, 2, 5], [3, 1, 4]])

    def test_the_first_of_as_long_ones_behind_a_shorter_one(self):
        # Pieces from 1 to 2, from 3 to 6, from 4 to 7.
        simplices = [(0, 2), (1, 2), (0, 5), (3, 5), (0, 6), (4, 6)]
        found = ask(shape(*simplices), heights_of(0, 1, 2, 3, 4, 6, 7), bars(0), longest(0))
        self.assertEqual(found[2:], [[4, 0, -1, 1, 2, 3, 6, 4, 7], [3, 3, 6]])

    def test_each_dimension_has_its_own(self):
        # A ring from 5 to 9; its pieces join at once.
        simplices = [(0, 1, 4), (1, 2, 4), (2, 3, 4), (0, 3, 4), (5, 6), (0, 6)]
        found = ask(shape(*simplices), heights_of(1, 2, 3, 5, 9, 7, 8), longest(0), longest(1), longest(2))
        self.assertEqual(found[2:], [[1, 7, 8], [4, 5, 9], [-6]])

    def test_a_hollow(self):
        simplices = [face + (4,) for face in HOLLOW]
        self.assertEqual(last(shape(*simplices), heights_of(1, 1, 2, 3, 6), longest(2)), [3, 3, 6])

    def test_as_bars_tells(self):
        told = [(simplices, heights_of(*heights)) for simplices in SMALL_SHAPES
                for heights in itertools.product((0, 1, 3), repeat=4)]
        told += [(simplices, height(*heights)) for simplices, heights in LARGER_SHAPES]
        for simplices, call in told:
            calls = [call for dimension in range(5) for call in (bars(dimension), longest(dimension))]
            found = ask(shape(*simplices), call, *calls)[2:]
            for every, answer in zip(found[0::2], found[1::2]):
                self.assertEqual(answer, expected_longest(twos_in(every)))


class Edges(unittest.TestCase):
    def test_from_0_to_1000(self):
        self.assertEqual(last(shape((0, 1), (1, 2)), heights_of(0, 1000, 0), longest(0)), [1000, 0, 1000])

    def test_one_that_has_no_end_is_not_longer(self):
        # It begins at 0, the one that ends at 999.
        self.assertEqual(last(shape((0, 1), (1, 2)), heights_of(0, 1000, 999), longest(0)), [1, 999, 1000])


class Refused(unittest.TestCase):
    def test_none_in_an_empty_shape(self):
        self.assertEqual(ask(longest(0), longest(4294967295), shape(), longest(0)), [[-6], [-6], [0], [-6]])

    def test_none_has_an_end(self):
        self.assertEqual(last(shape((0,), (1,)), heights_of(1, 2), longest(0)), [-6])
        self.assertEqual(last(shape(*RING), heights_of(1, 4, 2), longest(1)), [-6])
        self.assertEqual(last(shape(*HOLLOW), heights_of(1, 4, 2), longest(2)), [-6])
        self.assertEqual(last(shape(*HOLLOW_OF_TETRAHEDRA), heights_of(1, 2, 3, 4, 5), longest(3)), [-6])

    def test_those_of_no_length_are_none(self):
        for dimension in range(4):
            self.assertEqual(last(shape((0, 1, 2, 3)), heights_of(5, 5, 5, 5), longest(dimension)), [-6])

    def test_a_dimension_without_bars(self):
        for dimension in [1, 2, 3, 4, 10, 1001, 4294967295]:
            self.assertEqual(last(shape((0, 1), (1, 2)), heights_of(1, 8, 3), longest(dimension)), [-6])

    def test_all_is_as_it_was(self):
        before = [shape((0, 1), (1, 2)), heights_of(1, 8, 3)]
        questions = [row_of(), pairs(), bars(0), at(3), longest(0)]
        untouched = ask(*before, *questions)[2:]
        for wrong in [longest(1), longest(3), longest(4294967295)]:
            self.assertEqual(ask(*before, wrong, *questions)[2:], [[-6]] + untouched)


if __name__ == "__main__":
    unittest.main()
