"""Shapes that several tests ask about, and what the document says of them, worked out another way."""

from itertools import combinations

EDGES = list(combinations(range(10), 2))
TRIANGLES = list(combinations(range(10), 3))
# Ten corners, 45 edges and five triangles; then one more triangle.
JUST_60 = EDGES + TRIANGLES[:5]
JUST_61 = EDGES + TRIANGLES[:6]

RING = [(0, 1), (1, 2), (0, 2)]
HOLLOW = list(combinations(range(4), 3))
# All tetrahedra of five corners: together they bear a hole of dimension 3, and nothing can fill it.
HOLLOW_OF_TETRAHEDRA = list(combinations(range(5), 4))

WRONG_SIMPLICES = [
    (),
    (0, 1, 2, 3, 4),
    (0, 1, 2, 3, 4, 5),
    (3, 3),
    (0, 1, 0),
    (0, 1, 2, 2),
    (5, 5, 5, 5, 5),
    (-1,),
    (10,),
    (0, -1),
    (9, 10),
    (0, 1, 2, 10),
    (-4294967295,),
    (4294967295,),
]

# Each is told by simplices on the corners 0 to 3, so that all their small heights can be gone through.
SMALL_SHAPES = [
    [(0,)],
    [(0,), (1,), (2,), (3,)],
    [(0, 1), (1, 2), (2, 3)],
    [(0, 1), (1, 2), (2, 3), (0, 3)],
    RING + [(3,)],
    [(0, 1, 2), (3,)],
    [(0, 1, 2), (1, 3), (2, 3)],
    list(combinations(range(4), 2)),
    [(0, 1, 2), (0, 1, 3), (2, 3)],
    [(0, 1, 2), (0, 1, 3), (0, 2, 3)],
    HOLLOW,
    [(0, 1, 2, 3)],
]

# Told on more corners, each with some heights.
LARGER_SHAPES = [
    ([(0, 1, 2, 3), (3, 4, 5), (5, 6), (6, 7), (5, 7), (8,)], (5, 3, 8, 1, 9, 2, 2, 7, 4, 0)),
    ([(0, 1, 2, 3), (1, 2, 3, 4), (0, 4), (5, 6, 7), (5, 6, 8), (5, 7, 8), (6, 7, 8)],
     (3, 1, 4, 1, 5, 9, 2, 6, 5, 3)),
    ([(0, 1, 3), (1, 3, 5), (1, 2, 5), (2, 5, 6), (2, 0, 6), (0, 6, 3)], (6, 2, 8, 3, 1, 8, 5, 3, 0, 7)),
    ([(0, 1, 4), (1, 4, 2), (4, 2, 5), (2, 5, 0), (5, 0, 1), (3, 0, 1), (3, 1, 2), (3, 2, 4), (3, 4, 5), (3, 5, 0)],
     (4, 0, 1000, 7, 7, 3, 0, 0, 0, 0)),
    (JUST_60, (10, 20, 30, 40, 50, 60, 70, 80, 90, 100)),
    (JUST_60, (9, 1, 8, 2, 7, 3, 6, 4, 5, 5)),
    (JUST_60, (0, 0, 0, 0, 0, 0, 0, 0, 0, 0)),
    (HOLLOW_OF_TETRAHEDRA + [(5, 6), (6, 7), (5, 7)], (3, 1, 4, 1, 5, 9, 2, 6, 5, 3)),
]


def closed(simplices):
    found = set()
    for simplex in simplices:
        for size in range(1, len(simplex) + 1):
            found.update(combinations(sorted(simplex), size))
    return found


def coming(simplex, heights):
    return max(heights[corner] for corner in simplex)


def expected_row(simplices, heights):
    return sorted(closed(simplices), key=lambda one: (coming(one, heights), len(one), one))


def rank(columns):
    """The rank by twos of columns, each a number whose bits are its rows."""
    basis = {}
    for column in columns:
        while column and column.bit_length() in basis:
            column ^= basis[column.bit_length()]
        if column:
            basis[column.bit_length()] = column
    return len(basis)


def boundary_columns(row):
    place = {simplex: k for k, simplex in enumerate(row)}
    return [
        sum(1 << place[face] for face in combinations(simplex, len(simplex) - 1) if face)
        for simplex in row
    ]


def expected_pairs(row):
    """The pairs, told by ranks of corners of the boundaries' table, with nothing kept or added."""
    columns = boundary_columns(row)
    size = len(row)

    def corner_rank(first_row, columns_taken):
        return rank([column >> first_row for column in columns[:columns_taken]])

    ranks = [[corner_rank(k, taken) for taken in range(size + 1)] for k in range(size + 1)]
    return [
        (low, high)
        for high in range(size)
        for low in range(size)
        if ranks[low][high + 1] - ranks[low + 1][high + 1] + ranks[low + 1][high] - ranks[low][high] == 1
    ]


def holes_at_both(simplices, heights, dimension, first, second):
    """How many holes are there at first and still there at second: cycles there, less those that bound later."""
    every = expected_row(simplices, heights)
    columns = boundary_columns(every)
    when = [coming(simplex, heights) for simplex in every]
    early = sum(1 << k for k, height in enumerate(when) if height <= first)
    of_dimension = [
        k for k, simplex in enumerate(every) if len(simplex) == dimension + 1 and when[k] <= first
    ]
    fillers = [
        columns[k] for k, simplex in enumerate(every) if len(simplex) == dimension + 2 and when[k] <= second
    ]
    cycles = len(of_dimension) - rank([columns[k] for k in of_dimension])
    # A boundary lies among the early ones if nothing of it is late: all of them less what's seen among the late.
    late = [column & ~early for column in fillers]
    bounding = rank(fillers) - rank(late)
    return cycles - bounding
