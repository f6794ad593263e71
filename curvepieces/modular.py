"""Polynomials in one letter and in two, and tables, modulo a prime; nothing is checked.

Their numbers are rests from 0 to the prime less 1, if "modulo" has been taken of them.
"""

from curvepieces.grids import grid_less, grid_slope_x, grid_trimmed
from curvepieces.polys import poly_times, trimmed


def grid_modulo(plane, prime):
    """The polynomial in x and y of the rests that the numbers leave."""
    return grid_trimmed([[number % prime for number in line] for line in plane])


def inverse_modulo(number, prime):
    """The rest that, times the number, leaves 1; the number is no multiple of the prime."""
    # Each time the first of a pair is a multiple of the prime and its second one times the number.
    high, low = (prime, 0), (number % prime, 1)
    while low[0] > 1:
        often = high[0] // low[0]
        high, low = low, (high[0] - often * low[0], high[1] - often * low[1])
    return low[1] % prime


def divided_modulo(one, two, prime):
    """(quotient, rest) of polynomials in one letter, the second one not []."""
    inverse = inverse_modulo(two[-1], prime)
    rest, quotient = list(one), []
    for shift in range(len(one) - len(two), -1, -1):
        top = rest[shift + len(two) - 1] * inverse % prime
        quotient.append(top)
        for at, number in enumerate(two):
            rest[shift + at] = (rest[shift + at] - top * number) % prime
    return quotient[::-1], trimmed(rest)


def common_modulo(one, two, prime):
    """A common part of polynomials in one letter into which each other one goes; [] of twice []."""
    first, second = one, two
    while len(second) > 0:
        first, second = second, divided_modulo(first, second, prime)[1]
    return first


def is_clean_grid(plane, prime):
    """Whether a polynomial modulo the prime has x, and with its slope by x nothing in common but numbers."""
    # What is free of x and goes into the polynomial goes into its slope, too.
    if len(plane) < 2 or len(_lines_common(plane, prime)) > 1:
        return False
    first, second = plane, grid_modulo(grid_slope_x(plane), prime)
    while len(second) > 1:
        first, second = second, _without_common(_rest_by_x(first, second, prime), prime)
    return len(second) == 1


def _lines_common(plane, prime):
    """The common part of all lines."""
    common = []
    for line in plane:
        common = common_modulo(line, common, prime)
    return common


def _without_common(plane, prime):
    """The polynomial divided by the common part of all its lines."""
    common = _lines_common(plane, prime)
    return [divided_modulo(line, common, prime)[0] for line in plane]


def _rest_by_x(one, two, prime):
    """The rest, as polynomials in x, of the first one times a polynomial in y by the second one."""
    rest = one
    while len(rest) >= len(two):
        shift = len(rest) - len(two)
        less = [[] for _ in range(shift)] + [poly_times(rest[-1], line) for line in two]
        rest = grid_modulo(grid_less([poly_times(two[-1], line) for line in rest], less), prime)
    return rest


def rank_modulo(rows, width, prime):
    """How many columns of the table are, modulo the prime, no sum of those ahead of them, each times a number."""
    table, many = [[number % prime for number in row] for row in rows], 0
    for column in range(width):
        fit = [at for at in range(many, len(table)) if table[at][column] != 0]
        if len(fit) == 0:
            continue
        table[many], table[fit[0]] = table[fit[0]], table[many]
        inverse = inverse_modulo(table[many][column], prime)
        for at in range(many + 1, len(table)):
            factor = table[at][column] * inverse
            if factor != 0:
                table[at] = [(a - factor * b) % prime for a, b in zip(table[at], table[many])]
        many += 1
    return many
