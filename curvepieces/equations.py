"""Forms, the equation of a curve, how often the curve is drawn, whether it lies on a form."""

from curvepieces.curves import check_curve, degree_of_lines
from curvepieces.errors import InvalidForm
from curvepieces.followers import followers
from curvepieces.grids import grid_common, grid_determinant, grid_plain, grid_quotient, grid_slope_x, grid_slope_y
from curvepieces.grids import grid_total, grid_trimmed
from curvepieces.kinds import is_count
from curvepieces.planes import is_plane
from curvepieces.polys import poly_sum, poly_times, scaled
from curvepieces.tables import sylvester

FORM_DEGREE = 8


def is_form(value):
    """Whether any value is a form."""
    if not isinstance(value, tuple) or len(value) != 2:
        return False
    plane, many = value
    if not is_plane(plane) or len(plane) == 0 or not is_count(many, FORM_DEGREE):
        return False
    return grid_total(plane) <= many


def check_form(form):
    """InvalidForm unless a form."""
    if not is_form(form):
        raise InvalidForm(form)


def equation(curve):
    """The equation of the curve, a form."""
    check_curve(curve)
    first, second = [_by_time(follower) for follower in followers(curve)]
    # The equation to the power of how often the curve is drawn, up to a number, with 1 in the place of w.
    power = grid_determinant(sylvester(first, second, []))
    if grid_total(power) == 0:
        return [[1]], 1
    # The equation is one piece, so each slope that is not nought has all but one of its powers in common with it.
    slope = grid_slope_x(power)
    if len(slope) == 0:
        slope = grid_slope_y(power)
    plane = grid_plain(grid_quotient(power, grid_common(power, slope)))
    return plane, grid_total(plane)


def _by_time(follower):
    """The follower's three lines times x, y and 1, added: a polynomial in the time, its numbers in x and y."""
    size = degree_of_lines(follower) + 1
    x, y, free = [list(line) + [0] * (size - len(line)) for line in follower]
    return [grid_trimmed([[free[power], y[power]], [x[power]]]) for power in range(size)]


def drawn(curve):
    """How often the curve is drawn."""
    check_curve(curve)
    return degree_of_lines(curve) // equation(curve)[1]


def lies_on(curve, form):
    """Whether the curve lies on the form."""
    check_curve(curve)
    check_form(form)
    return form_line(curve, form) == []


def form_line(curve, form):
    """The polynomial in the time that comes when a curve's lines are put into a form, of any degree."""
    plane, many = form
    by_x, by_y, by_w = [_powers(line, many) for line in curve]
    total = []
    for i, line in enumerate(plane):
        for j, number in enumerate(line):
            if number != 0:
                term = poly_times(poly_times(by_x[i], by_y[j]), by_w[many - i - j])
                total = poly_sum(total, scaled(term, number))
    return total


def _powers(line, most):
    """The powers of the line, from the power 0 on to this one."""
    found = [[1]]
    for _ in range(most):
        found.append(poly_times(found[-1], line))
    return found
