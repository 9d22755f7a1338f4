import unittest

from tests.calls import ask, bars, heights_of, last, pairs, row_of, shape, simplices_in
from tests.shapes import EDGES, JUST_60, JUST_61, WRONG_SIMPLICES


class Ordinary(unittest.TestCase):
    def test_counts_all_faces(self):
        for simplex, many in [((7,), 1), ((2, 5), 3), ((1, 4, 9), 7), ((0, 3, 6, 9), 15)]:
            self.assertEqual(last(shape(simplex)), [many])

    def test_has_just_the_faces(self):
        row = last(shape((0, 2, 5), (7,)), row_of())
        self.assertEqual(row, [8, 1, 0, 1, 2, 1, 5, 1, 7, 2, 0, 2, 2, 0, 5, 2, 2, 5, 3, 0, 2, 5])

    def test_faces_in_common_count_once(self):
        self.assertEqual(last(shape((0, 1, 2), (1, 2, 3))), [11])

    def test_whatever_order_of_corners(self):
        for told in [(9, 4, 1), (4, 1, 9), (1, 9, 4)]:
            self.assertEqual(ask(shape(told), row_of()), ask(shape((1, 4, 9)), row_of()))

    def test_told_more_than_once(self):
        self.assertEqual(last(shape((1, 2), (2, 1), (1, 2))), [3])
        self.assertEqual(last(shape((1, 2, 3), (3,), (3, 2), (2, 3))), [7])

    def test_sixty_times_the_same(self):
        self.assertEqual(last(shape(*[(3, 2, 1, 0)] * 60)), [15])

    def test_the_outermost_corners(self):
        self.assertEqual(ask(shape((9, 0)), row_of()), [[3], [3, 1, 0, 1, 9, 2, 0, 9]])


class Edges(unittest.TestCase):
    def test_no_simplices(self):
        self.assertEqual(ask(shape(), row_of(), pairs(), bars(0)), [[0], [0], [0], [0]])

    def test_again_the_new_one_alone(self):
        found = ask(shape((0, 1)), shape((2,)), row_of(), shape(), row_of())
        self.assertEqual(found, [[3], [1], [1, 1, 2], [0], [0]])

    def test_again_and_heights_stay(self):
        found = ask(shape((0, 1)), heights_of(3, 7, 5), shape((1,), (2,)), bars(0), row_of())
        self.assertEqual(found[3:], [[2, 5, -1, 7, -1], [2, 1, 2, 1, 1]])

    def test_just_sixty(self):
        found = ask(shape(*JUST_60), row_of())
        self.assertEqual(found[0], [60])
        self.assertEqual(len(simplices_in(found[1])), 60)

    def test_sixty_one(self):
        self.assertEqual(last(shape(*JUST_61)), [-2])

    def test_faces_are_what_makes_it_too_many(self):
        few = [(0, 1, 2, 3), (4, 5, 6, 7), (0, 1, 4, 5), (2, 3, 6, 7), (0, 2, 4, 6)]
        self.assertEqual(last(shape(*few)), [55])
        self.assertEqual(last(shape(*few, (8, 9), (0, 8), (0,))), [59])
        self.assertEqual(last(shape(*few, (8, 9), (0, 8), (0, 9))), [60])
        self.assertEqual(last(shape(*few, (0, 8, 9))), [-2])

    def test_sixty_triangles(self):
        triangles = [(a, b, c) for a in range(8) for b in range(a) for c in range(b)]
        self.assertEqual(last(shape(*(triangles + [(7, 8, 9)] * 4))), [-2])


class Refused(unittest.TestCase):
    def test_each_wrong_simplex(self):
        for wrong in WRONG_SIMPLICES:
            with self.subTest(wrong=wrong):
                self.assertEqual(last(shape(wrong)), [-1])

    def test_wherever_it_is_told(self):
        for wrong in WRONG_SIMPLICES:
            for told in [(wrong, (0, 1), (2,)), ((0, 1), wrong, (2,)), ((0, 1), (2,), wrong)]:
                with self.subTest(told=told):
                    self.assertEqual(last(shape(*told)), [-1])

    def test_of_two_the_one_told_first(self):
        for wrong in WRONG_SIMPLICES:
            with self.subTest(wrong=wrong):
                self.assertEqual(last(shape(*(JUST_61 + [wrong]))), [-1])
                self.assertEqual(last(shape(*([wrong] + JUST_61))), [-1])

    def test_all_is_as_it_was(self):
        before = [shape((0, 1), (1, 2)), heights_of(4, 2, 6)]
        questions = [row_of(), pairs(), bars(0)]
        untouched = ask(*before, *questions)[2:]
        for refused in [shape(*JUST_61)] + [shape((3, 4), wrong) for wrong in WRONG_SIMPLICES]:
            self.assertEqual(ask(*before, refused, *questions)[3:], untouched)

    def test_an_empty_shape_stays_empty(self):
        self.assertEqual(ask(shape((0, 1), (1, 1)), row_of()), [[-1], [0]])
        self.assertEqual(ask(shape(*JUST_61), row_of()), [[-2], [0]])

    def test_sixty_stay_when_one_more_is_refused(self):
        found = ask(shape(*JUST_60), row_of(), shape(*JUST_61), row_of(), shape(*EDGES))
        self.assertEqual(found[1], found[3])
        self.assertEqual([found[2], found[4]], [[-2], [55]])


if __name__ == "__main__":
    unittest.main()
