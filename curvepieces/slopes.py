"""Slope rows of clean planes: their table, how many are free, and papers of that count."""

from curvepieces.errors import InvalidPositions
from curvepieces.grids import grid_degrees
from curvepieces.kinds import check_many, is_list, is_positions
from curvepieces.planeparts import check_clean
from curvepieces.planes import check_degrees, check_plane, is_plane
from curvepieces.slopetables import equation_table, numbers_of, table_minor, told_rows, unknown_list
from curvepieces.tables import bound_places

TABLE_DEGREE = 4
MANY_MOST = 20


def check_table_plane(plane):
    """InvalidPlane unless a plane, NotClean unless it is clean, TooMany if a degree is too great for a table."""
    check_clean(plane)
    check_degrees(grid_degrees(plane), TABLE_DEGREE)


def unknowns(plane):
    """The list of the unknowns of the plane."""
    check_table_plane(plane)
    return unknown_list(plane)


def slope_table(plane):
    """The table of the plane."""
    check_table_plane(plane)
    return equation_table(plane)


def slope_rows(plane):
    """The told rows of the plane."""
    check_table_plane(plane)
    return told_rows(plane)


def piece_count(plane):
    """Into how many pieces the plane falls over all numbers."""
    check_table_plane(plane)
    return len(unknown_list(plane)) - len(bound_places(equation_table(plane))[0])


def is_slope_row(plane, value):
    """Whether any value is a slope row of the plane."""
    check_table_plane(plane)
    return _is_row(plane, equation_table(plane), value)


def _is_row(plane, table, value):
    """Whether any value is a tuple of two planes, of degrees that are let, that solves the table."""
    if not isinstance(value, tuple) or len(value) != 2:
        return False
    if not is_plane(value[0]) or not is_plane(value[1]):
        return False
    m, n = grid_degrees(plane)
    if not _fits(value[0], m - 1, n) or not _fits(value[1], m, n - 1):
        return False
    numbers = numbers_of(plane, value)
    return all([sum([a * b for a, b in zip(row, numbers)]) == 0 for row in table])


def _fits(part, most_x, most_y):
    """Whether the degrees of a plane are at most these."""
    m, n = grid_degrees(part)
    return m <= most_x and n <= most_y


def minor(plane, equations, places):
    """The determinant of the numbers of the table in the equations and unknowns at these positions."""
    check_table_plane(plane)
    table, width = equation_table(plane), len(unknown_list(plane))
    if not is_positions(equations, len(table)):
        raise InvalidPositions(equations)
    if not is_positions(places, width) or len(places) != len(equations):
        raise InvalidPositions(places)
    return table_minor(table, equations, places)


def count_paper(plane):
    """A count paper of the plane: the told rows, the bound equations, the bound unknowns."""
    check_table_plane(plane)
    equations, places, _ = bound_places(equation_table(plane))
    return told_rows(plane), equations, places


def is_count_paper(plane, many, value):
    """Whether any value is a count paper that the plane has this many pieces."""
    check_plane(plane)
    check_many(many, MANY_MOST)
    check_table_plane(plane)
    if not isinstance(value, tuple) or len(value) != 3:
        return False
    rows, equations, places = value
    return _shows_no_fewer(plane, many, rows) and _shows_no_more(plane, many, equations, places)


def _shows_no_fewer(plane, many, rows):
    """Whether any value is a list of this many free slope rows."""
    if not is_list(rows) or len(rows) != many:
        return False
    table = equation_table(plane)
    if not all([_is_row(plane, table, row) for row in rows]):
        return False
    numbers = [numbers_of(plane, row) for row in rows]
    return len(bound_places(numbers)[0]) == many


def _shows_no_more(plane, many, equations, places):
    """Whether any two values are positions of a minor that is not 0, of all unknowns but this many."""
    table, width = equation_table(plane), len(unknown_list(plane))
    if not is_positions(equations, len(table)) or not is_positions(places, width):
        return False
    if len(equations) != width - many or len(places) != width - many:
        return False
    return table_minor(table, equations, places) != 0
