"""Letters of planes, exchanged and changed."""

from curvepieces.errors import InvalidChange
from curvepieces.grids import grid_degrees, grid_exchanged, grid_sum, grid_times, grid_trimmed
from curvepieces.kinds import is_integer, is_list
from curvepieces.planes import PLANE_DEGREE, check_degrees, check_plane

CHANGE_SIZE = 6


def exchanged(plane):
    """The plane with both letters exchanged."""
    check_plane(plane)
    return grid_exchanged(plane)


def is_change(value):
    """Whether any value is a change."""
    if not is_list(value) or len(value) != CHANGE_SIZE:
        return False
    if not all([is_integer(number) for number in value]):
        return False
    return value[0] * value[4] - value[1] * value[3] != 0


def check_change(change):
    """InvalidChange unless a change."""
    if not is_change(change):
        raise InvalidChange(change)


def change_planes(change):
    """The two polynomials in x and y that a change puts in the place of x and of y."""
    a, b, c, d, e, k = change
    return grid_trimmed([[c, b], [a]]), grid_trimmed([[k, e], [d]])


def changed(plane, change):
    """The plane with a x + b y + c in the place of x, d x + e y + k in that of y, both at once."""
    check_plane(plane)
    check_change(change)
    x, y = change_planes(change)
    result = []
    for line in plane[::-1]:
        inner = []
        for number in line[::-1]:
            inner = grid_sum(grid_times(inner, y), [[number]])
        result = grid_sum(grid_times(result, x), inner)
    check_degrees(grid_degrees(result), PLANE_DEGREE)
    return result
