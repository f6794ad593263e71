"""Lines: polynomials in one letter with INTEGERS, of degrees to 12."""

from curvepieces.errors import InvalidLine, TooMany, ZeroLine
from curvepieces.kinds import check_number, is_integer, is_list
from curvepieces.polys import poly_common, poly_divided, poly_less, poly_plain, poly_slope, poly_sum, poly_times
from curvepieces.polys import poly_value
from curvepieces.tables import determinant, sylvester

LINE_DEGREE = 12


def is_line(value):
    """Whether any value is a line."""
    if not is_list(value) or len(value) > LINE_DEGREE + 1:
        return False
    if not all([is_integer(number) for number in value]):
        return False
    return len(value) == 0 or value[-1] != 0


def check_line(line):
    """InvalidLine unless a line."""
    if not is_line(line):
        raise InvalidLine(line)


def check_lines(line, other):
    """InvalidLine unless both are lines."""
    check_line(line)
    check_line(other)


def degree(line):
    """The greatest power of the line, -1 of []."""
    check_line(line)
    return len(line) - 1


def line_value(line, number):
    """The value of the line at the number."""
    check_line(line)
    check_number(number)
    return poly_value(line, number)


def line_slope(line):
    """The slope of the line."""
    check_line(line)
    return poly_slope(line)


def plain_line(line):
    """The plain line of the line."""
    check_line(line)
    return poly_plain(line)


def line_sum(line, other):
    """Both lines added."""
    check_lines(line, other)
    return poly_sum(line, other)


def line_less(line, other):
    """The line less the other one."""
    check_lines(line, other)
    return poly_less(line, other)


def line_times(line, other):
    """Both lines multiplied."""
    check_lines(line, other)
    product = poly_times(line, other)
    if len(product) > LINE_DEGREE + 1:
        raise TooMany("degree", LINE_DEGREE)
    return product


def line_divided(line, other):
    """The least number, the quotient and the rest of the line by the other one."""
    check_lines(line, other)
    if len(other) == 0:
        raise ZeroLine()
    return poly_divided(line, other)


def line_common(line, other):
    """The plain common part of both lines."""
    check_lines(line, other)
    return poly_common(line, other)


def resultant(line, other):
    """The determinant of Sylvester's table of both lines."""
    check_lines(line, other)
    if len(line) == 0 or len(other) == 0:
        raise ZeroLine()
    return determinant(sylvester(line, other, 0))
