"""Planes: polynomials in x and y with INTEGERS, of degrees to 8."""

from curvepieces.errors import InvalidPlane, TooMany
from curvepieces.grids import grid_at_x, grid_at_y, grid_degrees, grid_less, grid_plain, grid_slope_x, grid_slope_y
from curvepieces.grids import grid_sum, grid_times
from curvepieces.kinds import check_number, is_list
from curvepieces.lines import is_line
from curvepieces.polys import poly_value

PLANE_DEGREE = 8


def is_plane(value):
    """Whether any value is a plane."""
    if not is_list(value) or len(value) > PLANE_DEGREE + 1:
        return False
    if not all([is_line(line) and len(line) <= PLANE_DEGREE + 1 for line in value]):
        return False
    return len(value) == 0 or len(value[-1]) > 0


def check_plane(plane):
    """InvalidPlane unless a plane."""
    if not is_plane(plane):
        raise InvalidPlane(plane)


def check_planes(plane, other):
    """InvalidPlane unless both are planes."""
    check_plane(plane)
    check_plane(other)


def check_degrees(pair, most):
    """TooMany if one of the two degrees is above the bound."""
    if max(pair) > most:
        raise TooMany("degree", most)


def degrees(plane):
    """The greatest powers of x and of y, a tuple; (-1, -1) of []."""
    check_plane(plane)
    return grid_degrees(plane)


def head(plane):
    """The last number of the last line, 0 of []."""
    check_plane(plane)
    if len(plane) == 0:
        return 0
    return plane[-1][-1]


def plane_sum(plane, other):
    """Both planes added."""
    check_planes(plane, other)
    return grid_sum(plane, other)


def plane_less(plane, other):
    """The plane less the other one."""
    check_planes(plane, other)
    return grid_less(plane, other)


def plane_times(plane, other):
    """Both planes multiplied."""
    check_planes(plane, other)
    product = grid_times(plane, other)
    check_degrees(grid_degrees(product), PLANE_DEGREE)
    return product


def plane_value(plane, x, y):
    """The value of the plane at two INTEGERS."""
    check_plane(plane)
    check_number(x)
    check_number(y)
    return poly_value(grid_at_x(plane, x), y)


def at_x(plane, number):
    """The line in y that is left with the number in the place of x."""
    check_plane(plane)
    check_number(number)
    return grid_at_x(plane, number)


def at_y(plane, number):
    """The line in x that is left with the number in the place of y."""
    check_plane(plane)
    check_number(number)
    return grid_at_y(plane, number)


def slope_x(plane):
    """The slope of the plane by x."""
    check_plane(plane)
    return grid_slope_x(plane)


def slope_y(plane):
    """The slope of the plane by y."""
    check_plane(plane)
    return grid_slope_y(plane)


def plain_plane(plane):
    """The plain plane of which the plane is a number times."""
    check_plane(plane)
    return grid_plain(plane)
