"""Polynomials in one letter, of any degree: lists of INTEGERS from the power 0 on, the last one not 0.

Nothing here checks what it is passed; tuples are let for lists, what is returned is new.
"""

from math import gcd


def trimmed(numbers):
    """The numbers without the noughts at their end."""
    size = len(numbers)
    while size > 0 and numbers[size - 1] == 0:
        size -= 1
    return list(numbers[:size])


def scaled(numbers, factor):
    """Each number times the factor."""
    return trimmed([factor * number for number in numbers])


def poly_sum(one, two):
    """Both added."""
    long, short = (one, two) if len(one) >= len(two) else (two, one)
    both = [a + b for a, b in zip(long, short)]
    return trimmed(both + list(long[len(short):]))


def poly_less(one, two):
    """The first one less the second one."""
    return poly_sum(one, scaled(two, -1))


def poly_times(one, two):
    """Both multiplied."""
    if len(one) == 0 or len(two) == 0:
        return []
    result = [0] * (len(one) + len(two) - 1)
    for i, a in enumerate(one):
        for j, b in enumerate(two):
            result[i + j] += a * b
    return result


def poly_value(numbers, place):
    """What comes when the place is put for the letter."""
    value = 0
    for number in numbers[::-1]:
        value = value * place + number
    return value


def poly_slope(numbers):
    """At i the number at i + 1, i + 1 times."""
    return [power * number for power, number in enumerate(numbers) if power > 0]


def content(numbers):
    """The greatest common divisor of all numbers, 0 if there is none but 0."""
    common = 0
    for number in numbers:
        common = gcd(common, number)
    return common


def poly_plain(numbers):
    """The plain polynomial of which the numbers are a multiple."""
    if len(numbers) == 0:
        return []
    common = content(numbers)
    if numbers[-1] < 0:
        common = -common
    return [number // common for number in numbers]


def plain_numbers(numbers):
    """The numbers, not all 0, without a common divisor; the last one that is not 0 is above 0."""
    short = trimmed(numbers)
    return poly_plain(short) + [0] * (len(numbers) - len(short))


def poly_divided(one, two):
    """(least, quotient, rest): the least number above 0 that, times one, is the quotient times two and the rest."""
    least, rest = 1, list(one)
    quotient = [0] * max(0, len(one) - len(two) + 1)
    top = two[-1]
    while len(rest) >= len(two):
        # The bottom of the next number of the quotient, the least factor that makes an INTEGER of it.
        factor = abs(top) // gcd(rest[-1], top)
        number = rest[-1] * factor // top
        shift = len(rest) - len(two)
        least = least * factor
        quotient = [factor * part for part in quotient]
        quotient[shift] = number
        rest = poly_less(scaled(rest, factor), [0] * shift + scaled(two, number))
    return least, quotient, rest


def poly_quotient(one, two):
    """The polynomial with INTEGERS that, times two, is one; None if there is none."""
    least, quotient, rest = poly_divided(one, two)
    if least != 1 or len(rest) > 0:
        return None
    return quotient


def poly_common(one, two):
    """The plain common part of both; [] of twice 0."""
    first, second = poly_plain(one), poly_plain(two)
    while len(second) > 0:
        first, second = second, poly_plain(poly_divided(first, second)[2])
    return first
