"""Ways to tell calls in one list, and to take the answers apart again."""

from floodedshape.holes import answers


def shape(*simplices):
    told = [0, 0, len(simplices)]
    for simplex in simplices:
        told += [len(simplex)] + list(simplex)
    return told


def height(*heights):
    return [1, len(heights)] + list(heights) + [0]


def heights_of(*first):
    """The call height with these for the first corners, 0 for the others."""
    return height(*(list(first) + [0] * (10 - len(first))))


def row_of():
    return [2, 0, 0]


def pairs():
    return [3, 0, 0]


def bars(dimension):
    return [4, 1, dimension, 0]


def at(height):
    return [5, 1, height, 0]


def lasting(height, other):
    return [6, 2, height, other, 0]


def longest(dimension):
    return [7, 1, dimension, 0]


def swamped(height):
    return [8, 1, height, 0]


def partner(*corners):
    return [9, len(corners)] + list(corners) + [0]


def apart(answered):
    """The answers, a list each."""
    found = []
    start = 0
    while start < len(answered):
        end = start + 1 + answered[start]
        if answered[start] < 1 or end > len(answered):
            raise ValueError("the counts do not fit")
        found.append(answered[start + 1:end])
        start = end
    return found


def ask(*calls):
    """Each call's answer."""
    told = [number for call in calls for number in call]
    found = apart(answers(told))
    if len(found) != len(calls):
        raise ValueError("not one answer for each call")
    return found


def last(*calls):
    """The last call's answer."""
    return ask(*calls)[-1]


def simplices_in(answer):
    """The simplices that an answer tells."""
    found = []
    start = 1
    while start < len(answer):
        end = start + 1 + answer[start]
        found.append(tuple(answer[start + 1:end]))
        start = end
    if len(found) != answer[0]:
        raise ValueError("the count of simplices does not fit")
    return found


def twos_in(answer):
    """The twos that an answer tells."""
    found = list(zip(answer[1::2], answer[2::2]))
    if len(answer) != 1 + 2 * answer[0]:
        raise ValueError("the count of twos does not fit")
    return found
