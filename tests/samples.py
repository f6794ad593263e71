"""Planes of which it is known of which whole ones they are the product, and into how many pieces each falls."""

from itertools import combinations

from tests import plain

# Whole plain planes, no two of them alike, and into how many pieces each falls over all numbers.
WHOLE = [([[0, -1], [1]], 1), ([[0, 1], [1]], 1), ([[3, -2], [1]], 1), ([[5], [2]], 1), ([[11, 1], [0, 1]], 1),
         ([[0, 0, -2], [], [1]], 2), ([[-1, 0, 1], [], [1]], 1), ([[0, 0, 0, -2], [], [], [1]], 3),
         ([[-2], [], [1]], 2), ([[0, 0, 1], [], [1]], 2), ([[7, 0, -2], [], [1]], 1), ([[-2], [], [], [1]], 3),
         ([[0, 0, -1], [], [], [1]], 1), ([[-3], [], [0, 0, 1]], 2)]

# Such of degree 4 in a letter.
WHOLE_GREAT = [([[0, 0, 0, 0, -2], [], [], [], [1]], 4), ([[1], [], [], [], [1]], 4),
               ([[0, 0, 0, 0, 1], [], [], [], [1]], 4), ([[0, 0, -2], [], [], [], [1]], 2),
               ([[1, 0, 0, 0, 1], [], [0, 0, -10], [], [1]], 1), ([[0, 0, 0, 0, 1], [], [0, 0, -10], [], [1]], 4),
               ([[0, 0, 0, -1], [], [], [], [1]], 1), ([[-1, 0, 0, 0, 1], [], [], [], [1]], 1),
               ([[0, 0, 0, 0, 1], [1]], 1), ([[-2, 0, 0, 0, 1], [], [1]], 1),
               ([[1, 2, 3, 4, 5], [1], [], [7], [2]], 1)]


def degrees(plane):
    return len(plane) - 1, max(len(line) for line in plane) - 1


def samples():
    """Tuples of a plane of degrees to 4 and the sorted list of its whole parts with their counts."""
    found = [(plane, [(plane, many)]) for plane, many in WHOLE + WHOLE_GREAT]
    for many in (2, 3, 4):
        for parts in combinations(WHOLE, many):
            if max(sum(degrees(plane)[at] for plane, _ in parts) for at in (0, 1)) <= 4:
                found.append((plain.product(*[plane for plane, _ in parts]), sorted(parts)))
    return found


SAMPLES = samples()

# A few of them, of one to four pieces, with y and without; some are multiples.
FEW = [([[0, 0, -2], [], [1]], 2), ([[-1, 0, 1], [], [1]], 1), ([[4], [2]], 1), ([[-2], [], [1]], 2),
       ([[0, 0, 0, 6], [], [], [-3]], 3), ([[6], [-5], [1]], 2), ([[0, 0, 0, 0, -2], [], [], [], [1]], 4),
       ([[1], [], [], [], [1]], 4), (plain.product([[0, -1], [1]], [[-1, 0, 1], [], [1]]), 2),
       (plain.product([[0, 0, -2], [], [1]], [[-1, 0, 1], [], [-5]]), 3), ([[11, 1], [0, 1]], 1),
       (plain.product([[0, 0, -2], [], [1]], [[0, -1], [1]], [[0, 1], [1]]), 4)]
