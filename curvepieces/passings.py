"""Points over a root, and at which times a curve passes them."""

from curvepieces.curves import CURVE_SIZE, check_curve, degree_of_lines
from curvepieces.errors import InvalidPoint
from curvepieces.kinds import is_list
from curvepieces.rootfields import is_nought, is_over, over_common, over_less, over_scaled, over_trimmed
from curvepieces.rootnumbers import check_root


def is_point(root, value):
    """Whether any value is a point over a root."""
    if not is_list(value) or len(value) != CURVE_SIZE or not all([is_over(root, number) for number in value]):
        return False
    return not all([is_nought(number) for number in value])


def passings(curve, root, point):
    """The common line at whose roots the curve is at the point; how often infinite time is a passing."""
    check_curve(curve)
    check_root(root)
    if not is_point(root, point):
        raise InvalidPoint(point)
    common, greatest = [], 0
    for line in _lines_beside(curve, point):
        common = over_common(root, common, line)
        greatest = max(greatest, len(line) - 1)
    return common, degree_of_lines(curve) - greatest


def _lines_beside(curve, point):
    """Three polynomials in the time over the root, all nought just when the curve is at the point."""
    size = degree_of_lines(curve) + 1
    a, b, c = [list(line) + [0] * (size - len(line)) for line in curve]
    x, y, w = point
    return [_less(b, w, c, y), _less(c, x, a, w), _less(a, y, b, x)]


def _less(line, number, other, less):
    """The line times the number over the root, less the other line, of the same size, times the other number."""
    return over_trimmed([over_less(over_scaled(number, one, 1), over_scaled(less, two, 1))
                         for one, two in zip(line, other)])


def passing_count(curve, root, point):
    """How often the curve passes the point, infinite time included."""
    common, infinite = passings(curve, root, point)
    return len(common) - 1 + infinite
