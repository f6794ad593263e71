"""Guards of clean planes, and the primes modulo which such a plane has as many pieces as over all numbers."""

from curvepieces.grids import grid_at_y
from curvepieces.lines import resultant
from curvepieces.numbers import check_prime, is_prime
from curvepieces.planeparts import least_clean_place
from curvepieces.planes import check_plane
from curvepieces.polys import poly_slope
from curvepieces.slopes import check_table_plane
from curvepieces.slopetables import equation_table, least_bound
from curvepieces.tables import bound_places


def prime_bound(plane):
    """(2 m - 1) n, (m, n) the degrees of the plane."""
    check_table_plane(plane)
    return least_bound(plane)


def guards(plane):
    """The list of the two guards of the plane."""
    check_table_plane(plane)
    return _guards_of(plane)


def _guards_of(plane):
    """The guards of a clean plane."""
    line = grid_at_y(plane, least_clean_place(plane))
    return [abs(resultant(line, poly_slope(line))), bound_places(equation_table(plane))[2]]


def is_good(plane, prime):
    """Whether the prime is good for the plane."""
    check_plane(plane)
    check_prime(prime)
    check_table_plane(plane)
    return _is_good(prime, least_bound(plane), _guards_of(plane))


def _is_good(prime, bound, two_guards):
    """Whether the prime is above the bound and divides none of the guards."""
    return prime > bound and all([guard % prime != 0 for guard in two_guards])


def least_good(plane):
    """The least good prime for the plane."""
    check_table_plane(plane)
    bound, two_guards, number = least_bound(plane), _guards_of(plane), 2
    while not is_prime(number) or not _is_good(number, bound, two_guards):
        number += 1
    return number
