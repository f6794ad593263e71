"""The mathematics once more, as plainly as can be and over fractions: what the package's answers are held against.

Polynomials in one letter are lists from the power 0 on, in x and y dicts from (power of x, power of y) to number.
"""

from fractions import Fraction
from itertools import permutations


def cut(numbers):
    numbers = list(numbers)
    while numbers and numbers[-1] == 0:
        numbers.pop()
    return numbers


def value(numbers, place):
    return sum(number * place ** power for power, number in enumerate(numbers))


def times(one, two):
    if not one or not two:
        return []
    result = [0] * (len(one) + len(two) - 1)
    for i, a in enumerate(one):
        for j, b in enumerate(two):
            result[i + j] += a * b
    return result


def times_all(lines):
    result = [1]
    for line in lines:
        result = times(result, line)
    return result


def plus(one, two):
    size = max(len(one), len(two))
    one, two = list(one) + [0] * (size - len(one)), list(two) + [0] * (size - len(two))
    return cut([a + b for a, b in zip(one, two)])


def slope(numbers):
    return cut([power * number for power, number in enumerate(numbers)][1:])


def divided(one, two):
    """Quotient and rest over the fractions."""
    rest, quotient = [Fraction(number) for number in one], [Fraction(0)] * max(0, len(one) - len(two) + 1)
    while len(rest) >= len(two):
        shift, factor = len(rest) - len(two), rest[-1] / two[-1]
        quotient[shift] = factor
        rest = cut([a - factor * b for a, b in zip(rest, [0] * shift + list(two))])
    return quotient, rest


def common_degree(one, two):
    """The degree of the common part of two polynomials, not both nought."""
    while two:
        one, two = two, divided(one, two)[1]
    return len(one) - 1


def determinant(rows):
    """By all sequences of the columns."""
    total = 0
    for order in permutations(range(len(rows))):
        sign = 1
        for at, column in enumerate(order):
            sign *= (-1) ** sum(1 for later in order[at + 1:] if later < column)
        product = sign
        for row, column in zip(rows, order):
            product *= row[column]
        total += product
    return total


def bound(rows, width):
    """The columns that are no sum of the columns ahead of them, each times a number."""
    kept, found = [], []
    for column in range(width):
        left = [Fraction(row[column]) for row in rows]
        for pivot, other in kept:
            factor = left[pivot] / other[pivot]
            left = [a - factor * b for a, b in zip(left, other)]
        fit = [at for at, number in enumerate(left) if number != 0]
        if fit:
            kept.append((fit[0], left))
            found.append(column)
    return found


def spread(plane):
    """The dict of a plane."""
    return {(i, j): number for i, line in enumerate(plane) for j, number in enumerate(line) if number != 0}


def gathered(terms):
    """The plane of a dict."""
    terms = {key: number for key, number in terms.items() if number != 0}
    if not terms:
        return []
    m = max(i for i, _ in terms)
    rows = []
    for i in range(m + 1):
        size = max([j + 1 for k, j in terms if k == i], default=0)
        rows.append([terms.get((i, j), 0) for j in range(size)])
    return rows


def spread_plus(one, two, factor=1):
    result = dict(one)
    for key, number in two.items():
        result[key] = result.get(key, 0) + factor * number
    return {key: number for key, number in result.items() if number != 0}


def spread_times(one, two):
    result = {}
    for (i, j), a in one.items():
        for (k, m), b in two.items():
            result[i + k, j + m] = result.get((i + k, j + m), 0) + a * b
    return {key: number for key, number in result.items() if number != 0}


def slope_x(terms):
    return {(i - 1, j): i * number for (i, j), number in terms.items() if i > 0}


def slope_y(terms):
    return {(i, j - 1): j * number for (i, j), number in terms.items() if j > 0}


def product(*planes):
    """The product of planes, of any degrees, a plane."""
    result = {(0, 0): 1}
    for plane in planes:
        result = spread_times(result, spread(plane))
    return gathered(result)


def slope_rest(f, g, h):
    """What f g_y - f h_x - g f_y + h f_x is, of planes, a dict."""
    f, g, h = spread(f), spread(g), spread(h)
    inner = spread_plus(slope_y(g), slope_x(h), -1)
    return spread_plus(spread_plus(spread_times(f, inner), spread_times(g, slope_y(f)), -1),
                       spread_times(h, slope_x(f)))
