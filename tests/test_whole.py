"""What the document promises of the whole: heights changed by a little change the bars by no more."""

import itertools
import unittest

from tests.calls import ask, bars, heights_of, shape, twos_in
from tests.shapes import LARGER_SHAPES, SMALL_SHAPES

CHANGES = [(1, 0, 0, 0), (1, 1, 0, 1), (0, 1, 2, 0), (2, 0, 1, 2), (0, 3, 0, 1)]


def bars_of(simplices, heights):
    found = ask(shape(*simplices), heights_of(*heights), *[bars(dimension) for dimension in range(4)])
    return [twos_in(answer) for answer in found[2:]]


def are_near(bar, other, most):
    if (bar[1] == -1) != (other[1] == -1):
        return False
    return abs(bar[0] - other[0]) <= most and abs(bar[1] - other[1]) <= most


def find_place(k, near, taken, seen):
    for other in near[k]:
        if other in seen:
            continue
        seen.add(other)
        if other not in taken or find_place(taken[other], near, taken, seen):
            taken[other] = k
            return True
    return False


def all_find_one(those, others, most):
    """Whether each of those that are longer than twice the change has one of the others near it, each its own."""
    long = [bar for bar in those if bar[1] == -1 or bar[1] - bar[0] > 2 * most]
    near = [[k for k, other in enumerate(others) if are_near(bar, other, most)] for bar in long]
    taken = {}
    return all(find_place(k, near, taken, set()) for k in range(len(long)))


class NoMoreThanTheHeights(unittest.TestCase):
    def check(self, simplices, heights, changed):
        most = max(abs(one - other) for one, other in zip(heights, changed))
        for those, others in zip(bars_of(simplices, heights), bars_of(simplices, changed)):
            self.assertTrue(all_find_one(those, others, most), (simplices, heights, changed))
            self.assertTrue(all_find_one(others, those, most), (simplices, heights, changed))

    def test_small_shapes(self):
        for simplices in SMALL_SHAPES:
            for heights in itertools.product((0, 3, 8), repeat=4):
                for change in CHANGES[:2]:
                    self.check(simplices, heights, [one + by for one, by in zip(heights, change)])

    def test_larger_shapes(self):
        for simplices, heights in LARGER_SHAPES:
            for change in CHANGES:
                longer = (change * 3)[:10]
                self.check(simplices, heights, [abs(one - by) for one, by in zip(heights, longer)])


if __name__ == "__main__":
    unittest.main()
