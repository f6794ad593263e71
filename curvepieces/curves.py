"""Curves that are drawn by a time: three lines."""

from curvepieces.errors import InvalidCurve, InvalidLine, TooMany
from curvepieces.kinds import check_number, is_list
from curvepieces.lines import is_line
from curvepieces.polys import content, poly_common, poly_sum, poly_times, poly_value

CURVE_DEGREE = 5
CURVE_SIZE = 3


def is_curve(value):
    """Whether any value is a curve."""
    if not is_list(value) or len(value) != CURVE_SIZE or not all([is_line(line) for line in value]):
        return False
    top = degree_of_lines(value)
    return 1 <= top <= CURVE_DEGREE and len(poly_common(poly_common(value[0], value[1]), value[2])) == 1


def check_curve(curve):
    """InvalidCurve unless a curve."""
    if not is_curve(curve):
        raise InvalidCurve(curve)


def degree_of_lines(lines):
    """The greatest degree of the lines."""
    return max([len(line) for line in lines]) - 1


def curve_degree(curve):
    """The degree of the curve."""
    check_curve(curve)
    return degree_of_lines(curve)


def point_at(curve, number):
    """The point of the curve at the time."""
    check_curve(curve)
    check_number(number)
    return _point([poly_value(line, number) for line in curve])


def point_after(curve):
    """The point of the curve at infinite time."""
    check_curve(curve)
    top = degree_of_lines(curve)
    return _point([line[top] if len(line) > top else 0 for line in curve])


def _point(numbers):
    """The numbers, not all 0, without a common divisor, the first one that is not 0 above 0."""
    common = content(numbers)
    if [number for number in numbers if number != 0][0] < 0:
        common = -common
    return [number // common for number in numbers]


def by_time(curve, line):
    """The curve with the line's value in the place of the time."""
    check_curve(curve)
    if not is_line(line) or len(line) < 2:
        raise InvalidLine(line)
    if degree_of_lines(curve) * (len(line) - 1) > CURVE_DEGREE:
        raise TooMany("degree", CURVE_DEGREE)
    return [_led(numbers, line) for numbers in curve]


def _led(numbers, line):
    """The line of these numbers with the other line in the place of its letter."""
    result = []
    for number in numbers[::-1]:
        result = poly_sum(poly_times(result, line), [number])
    return result
