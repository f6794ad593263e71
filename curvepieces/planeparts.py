"""What goes into a plane, common parts of planes, clean planes and places."""

from curvepieces.errors import NoPart, NotClean, ZeroPlane
from curvepieces.grids import grid_at_y, grid_common, grid_plain, grid_quotient, grid_slope_x
from curvepieces.planes import check_plane, check_planes
from curvepieces.polys import poly_common, poly_slope


def goes_into(plane, other):
    """Whether the other one goes into the plane."""
    check_planes(plane, other)
    if len(other) == 0:
        raise ZeroPlane()
    return grid_quotient(plane, grid_plain(other)) is not None


def plane_quotient(plane, other):
    """The plain plane of which a number times, multiplied with the other one, is the plane."""
    check_planes(plane, other)
    if len(plane) == 0 or len(other) == 0:
        raise ZeroPlane()
    quotient = grid_quotient(plane, grid_plain(other))
    if quotient is None:
        raise NoPart()
    return grid_plain(quotient)


def plane_common(plane, other):
    """The plain common part of both planes."""
    check_planes(plane, other)
    return grid_common(plane, other)


def is_clean(plane):
    """Whether the plane is clean."""
    check_plane(plane)
    return len(plane) > 1 and grid_common(plane, grid_slope_x(plane)) == [[1]]


def check_clean(plane):
    """InvalidPlane unless a plane, then NotClean unless it is clean."""
    if not is_clean(plane):
        raise NotClean()


def clean_place(plane):
    """The least clean place of the plane that is a COUNT."""
    check_clean(plane)
    return least_clean_place(plane)


def least_clean_place(plane):
    """The least clean place of a clean plane that is a COUNT."""
    place = 0
    while not is_clean_place(plane, place):
        place += 1
    return place


def is_clean_place(plane, place):
    """Whether a clean plane leaves at the place for y a line of its degree in x, without double roots."""
    line = grid_at_y(plane, place)
    return len(line) == len(plane) and poly_common(line, poly_slope(line)) == [1]
