"""Numbers over a root, and polynomials in one letter with such numbers; nothing is checked but by is_over.

A number is a tuple (list, bottom) without a common divisor, the root a whole line with the last number 1. The
polynomials are lists of numbers from the power 0 on, the last one not nought.
"""

from math import gcd

from curvepieces.kinds import is_integer, is_list
from curvepieces.polys import content, poly_times
from curvepieces.tables import eliminated


def is_over(root, value):
    """Whether any value is a number over the root."""
    if not isinstance(value, tuple) or len(value) != 2:
        return False
    numbers, bottom = value
    if not is_list(numbers) or len(numbers) != len(root) - 1:
        return False
    if not all([is_integer(number) for number in numbers]) or not is_integer(bottom) or bottom < 1:
        return False
    return gcd(content(numbers), bottom) == 1


def led(root, numbers):
    """The INTEGERS from the power 0 on, as many as the root's degree, that polynomials in it come to."""
    size = len(root) - 1
    rest = list(numbers) + [0] * (size - len(numbers))
    for at in range(len(rest) - 1, size - 1, -1):
        for power in range(size):
            rest[at - size + power] -= rest[at] * root[power]
    return rest[:size]


def over_reduced(numbers, bottom):
    """The number with these INTEGERS over the bottom, which is not 0."""
    common = gcd(content(numbers), bottom)
    if bottom < 0:
        common = -common
    return [number // common for number in numbers], bottom // common


def over_number(root, numbers, bottom):
    """The number that the INTEGERS by the powers of the root, of any many, over the bottom tell."""
    return over_reduced(led(root, numbers), bottom)


def is_nought(one):
    """Whether the number is nought."""
    return not any(one[0])


def is_one(one):
    """Whether the number is one."""
    return one[0][0] == 1 and one[1] == 1 and not any(one[0][1:])


def over_sum(one, two):
    """Both added."""
    return over_reduced([a * two[1] + b * one[1] for a, b in zip(one[0], two[0])], one[1] * two[1])


def over_scaled(one, top, bottom):
    """The number times the top, divided by the bottom, which is not 0."""
    return over_reduced([top * number for number in one[0]], bottom * one[1])


def over_less(one, two):
    """The first one less the second one."""
    return over_sum(one, over_scaled(two, -1, 1))


def over_times(root, one, two):
    """Both multiplied."""
    return over_number(root, poly_times(one[0], two[0]), one[1] * two[1])


def over_inverse(root, one):
    """One divided by the number, which is not nought."""
    size = len(root) - 1
    columns = [led(root, [0] * power + list(one[0])) for power in range(size)]
    table = [[column[at] for column in columns] + [1 if at == 0 else 0] for at in range(size)]
    solved, _, pivot = eliminated(table, size)
    return over_reduced([one[1] * row[size] for row in solved], pivot)


def over_trimmed(numbers):
    """The numbers without the noughts at their end."""
    size = len(numbers)
    while size > 0 and is_nought(numbers[size - 1]):
        size -= 1
    return list(numbers[:size])


def over_poly(root, numbers):
    """The polynomial with these INTEGERS."""
    return over_trimmed([over_number(root, [number], 1) for number in numbers])


def over_monic(root, poly):
    """The polynomial with the last number one of which the polynomial is a multiple; [] of []."""
    if len(poly) == 0:
        return []
    inverse = over_inverse(root, poly[-1])
    return [over_times(root, number, inverse) for number in poly]


def over_divided(root, one, two):
    """(quotient, rest) of the polynomials; the last number of the second one is one."""
    rest, quotient = list(one), []
    for shift in range(len(one) - len(two), -1, -1):
        top = rest[shift + len(two) - 1]
        quotient.append(top)
        for at, number in enumerate(two):
            rest[shift + at] = over_less(rest[shift + at], over_times(root, top, number))
    return quotient[::-1], over_trimmed(rest)


def over_common(root, one, two):
    """The common part of both polynomials with the last number one; [] of twice []."""
    first, second = over_monic(root, one), over_monic(root, two)
    while len(second) > 0:
        first, second = second, over_monic(root, over_divided(root, first, second)[1])
    return first


def over_fitting(root, places, values):
    """The polynomial, of a degree below how many places there are, that has the values at the INTEGER places."""
    steps = list(values)
    for step in range(1, len(places)):
        for at in range(len(places) - 1, step - 1, -1):
            steps[at] = over_scaled(over_less(steps[at], steps[at - 1]), 1, places[at] - places[at - step])
    nought, result = over_number(root, [], 1), []
    for place, number in reversed(list(zip(places, steps))):
        # What is had so far, times the letter less the place, and the number.
        moved = list(zip([nought] + result, result + [nought]))
        result = [over_less(one, over_scaled(two, place, 1)) for one, two in moved]
        result[0] = over_sum(result[0], number)
    return over_trimmed(result)
