"""Planes modulo a prime: what they are, whether they are clean, into how many pieces they fall."""

from curvepieces.errors import BadPrime
from curvepieces.grids import grid_degrees
from curvepieces.modular import grid_modulo, is_clean_grid, rank_modulo
from curvepieces.numbers import check_prime
from curvepieces.planes import check_degrees, check_plane
from curvepieces.slopes import TABLE_DEGREE
from curvepieces.slopetables import equation_table, least_bound, unknown_list


def plane_modulo(plane, prime):
    """What the plane is modulo the prime."""
    check_plane(plane)
    check_prime(prime)
    return grid_modulo(plane, prime)


def is_clean_modulo(plane, prime):
    """Whether the plane is clean modulo the prime."""
    return is_clean_grid(plane_modulo(plane, prime), prime)


def count_modulo(plane, prime):
    """The number of the pieces of the plane modulo the prime."""
    left = plane_modulo(plane, prime)
    if not is_clean_grid(left, prime) or prime <= least_bound(left):
        raise BadPrime()
    check_degrees(grid_degrees(left), TABLE_DEGREE)
    width = len(unknown_list(left))
    return width - rank_modulo(equation_table(left), width, prime)
