"""The mathematics once more, as plainly as can be and over fractions: what the package's answers are held against.

Polynomials in one letter are lists from the power 0 on, in x and y dicts from (power of x, power of y) to number.
"""

from fractions import Fraction
from itertools import permutations
from math import gcd


def cut(numbers):
    numbers = list(numbers)
    while numbers and numbers[-1] == 0:
        numbers.pop()
    return numbers


def value(numbers, place):
    return sum(number * place ** power for power, number in enumerate(numbers))


def times(one, two):
    if not one or not two:
        return []
    result = [0] * (len(one) + len(two) - 1)
    for i, a in enumerate(one):
        for j, b in enumerate(two):
            result[i + j] += a * b
    return result


def times_all(lines):
    result = [1]
    for line in lines:
        result = times(result, line)
    return result


def plus(one, two):
    size = max(len(one), len(two))
    one, two = list(one) + [0] * (size - len(one)), list(two) + [0] * (size - len(two))
    return cut([a + b for a, b in zip(one, two)])


def slope(numbers):
    return cut([power * number for power, number in enumerate(numbers)][1:])


def divided(one, two):
    """Quotient and rest over the fractions."""
    rest, quotient = [Fraction(number) for number in one], [Fraction(0)] * max(0, len(one) - len(two) + 1)
    while len(rest) >= len(two):
        shift, factor = len(rest) - len(two), rest[-1] / two[-1]
        quotient[shift] = factor
        rest = cut([a - factor * b for a, b in zip(rest, [0] * shift + list(two))])
    return quotient, rest


def common_degree(one, two):
    """The degree of the common part of two polynomials, not both nought."""
    while two:
        one, two = two, divided(one, two)[1]
    return len(one) - 1


def determinant(rows):
    """By all sequences of the columns."""
    total = 0
    for order in permutations(range(len(rows))):
        sign = 1
        for at, column in enumerate(order):
            sign *= (-1) ** sum(1 for later in order[at + 1:] if later < column)
        product = sign
        for row, column in zip(rows, order):
            product *= row[column]
        total += product
    return total


def bound(rows, width):
    """The columns that are no sum of the columns ahead of them, each times a number."""
    kept, found = [], []
    for column in range(width):
        left = [Fraction(row[column]) for row in rows]
        for pivot, other in kept:
            factor = left[pivot] / other[pivot]
            left = [a - factor * b for a, b in zip(left, other)]
        fit = [at for at, number in enumerate(left) if number != 0]
        if fit:
            kept.append((fit[0], left))
            found.append(column)
    return found


def spread(plane):
    """The dict of a plane."""
    return {(i, j): number for i, line in enumerate(plane) for j, number in enumerate(line) if number != 0}


def gathered(terms):
    """The plane of a dict."""
    terms = {key: number for key, number in terms.items() if number != 0}
    if not terms:
        return []
    m = max(i for i, _ in terms)
    rows = []
    for i in range(m + 1):
        size = max([j + 1 for k, j in terms if k == i], default=0)
        rows.append([terms.get((i, j), 0) for j in range(size)])
    return rows


def spread_plus(one, two, factor=1):
    result = dict(one)
    for key, number in two.items():
        result[key] = result.get(key, 0) + factor * number
    return {key: number for key, number in result.items() if number != 0}


def spread_times(one, two):
    result = {}
    for (i, j), a in one.items():
        for (k, m), b in two.items():
            result[i + k, j + m] = result.get((i + k, j + m), 0) + a * b
    return {key: number for key, number in result.items() if number != 0}


def slope_x(terms):
    return {(i - 1, j): i * number for (i, j), number in terms.items() if i > 0}


def slope_y(terms):
    return {(i, j - 1): j * number for (i, j), number in terms.items() if j > 0}


def product(*planes):
    """The product of planes, of any degrees, a plane."""
    result = {(0, 0): 1}
    for plane in planes:
        result = spread_times(result, spread(plane))
    return gathered(result)


def slope_rest(f, g, h):
    """What f g_y - f h_x - g f_y + h f_x is, of planes, a dict."""
    f, g, h = spread(f), spread(g), spread(h)
    inner = spread_plus(slope_y(g), slope_x(h), -1)
    return spread_plus(spread_plus(spread_times(f, inner), spread_times(g, slope_y(f)), -1),
                       spread_times(h, slope_x(f)))


def spread_goes(part, whole):
    """Whether the part goes into the whole, dicts of fractions, the part not nought: by the greatest terms."""
    rest = {key: Fraction(number) for key, number in whole.items() if number != 0}
    lead = max(part)
    while rest:
        top = max(rest)
        if top[0] < lead[0] or top[1] < lead[1]:
            return False
        factor = rest[top] / part[lead]
        for (i, j), number in part.items():
            key = (i + top[0] - lead[0], j + top[1] - lead[1])
            rest[key] = rest.get(key, 0) - factor * number
            if rest[key] == 0:
                del rest[key]
    return True


def goes(part, whole):
    """Whether a plane goes into another one."""
    return spread_goes(spread(part), spread(whole))


def plain_of(plane):
    """The plain plane of which the plane, not nought, is a multiple."""
    divisor = gcd(*[number for line in plane for number in line])
    if plane[-1][-1] < 0:
        divisor = -divisor
    return [[number // divisor for number in line] for line in plane]


def plain_line_of(numbers):
    """The plain line of which the fractions, the last one not 0, are a multiple."""
    bottom = 1
    for number in numbers:
        bottom *= Fraction(number).denominator
    whole = [int(number * bottom) for number in numbers]
    divisor = gcd(*whole) * (-1 if whole[-1] < 0 else 1)
    return [number // divisor for number in whole]


def solved(columns, target):
    """The fractions by which the columns, free, must be mixed to be the target; None if there are none."""
    size = len(columns)
    rows = [[Fraction(column[at]) for column in columns] + [Fraction(target[at])] for at in range(len(target))]
    done = 0
    for place in range(size):
        fit = [at for at in range(done, len(rows)) if rows[at][place] != 0]
        rows[done], rows[fit[0]] = rows[fit[0]], rows[done]
        rows[done] = [number / rows[done][place] for number in rows[done]]
        for at, row in enumerate(rows):
            if at != done and row[place] != 0:
                rows[at] = [a - row[place] * b for a, b in zip(row, rows[done])]
        done += 1
    if any(row[size] != 0 for row in rows[size:]):
        return None
    return [rows[at][size] for at in range(size)]


def mix_of(planes, target):
    """The fractions by which the planes must be mixed to be the target; None if there are none."""
    keys = sorted({key for plane in planes + [target] for key in spread(plane)})
    return solved([[spread(plane).get(key, 0) for key in keys] for plane in planes],
                  [spread(target).get(key, 0) for key in keys])


def mixed(planes, numbers):
    """The dict of the planes, each times its number, added."""
    result = {}
    for plane, number in zip(planes, numbers):
        result = spread_plus(result, spread(plane), number)
    return result


def fraction_determinant(rows):
    """The determinant of a table of fractions, by clearing its columns."""
    table, result = [[Fraction(number) for number in row] for row in rows], Fraction(1)
    for at in range(len(table)):
        fit = [k for k in range(at, len(table)) if table[k][at] != 0]
        if not fit:
            return Fraction(0)
        if fit[0] != at:
            table[at], table[fit[0]] = table[fit[0]], table[at]
            result = -result
        result *= table[at][at]
        for k in range(at + 1, len(table)):
            factor = table[k][at] / table[at][at]
            table[k] = [a - factor * b for a, b in zip(table[k], table[at])]
    return result


def own_value(rows, place):
    """The determinant of the place from corner to corner, less the rows."""
    return fraction_determinant([[(place if i == j else 0) - number for j, number in enumerate(row)]
                                 for i, row in enumerate(rows)])


# Numbers over a root of degree d: tuples of d fractions.

def over(root, numbers):
    """What fractions by powers of the root come to."""
    rest = divided(cut(numbers), root)[1]
    return tuple([Fraction(number) for number in rest] + [Fraction(0)] * (len(root) - 1 - len(rest)))


def over_of(number):
    """The fractions of a number as the package tells it."""
    return tuple([Fraction(top, number[1]) for top in number[0]])


def over_times(root, one, two):
    return over(root, times(cut(one), cut(two)))


def norm(root, one):
    """The determinant of the table by which the powers of the root are multiplied."""
    columns = [over(root, [0] * power + list(one)) for power in range(len(root) - 1)]
    return fraction_determinant(columns)


def rows_spread(rows):
    """The dict of rows as the package tells them."""
    return {(i, j): over_of(number) for i, line in enumerate(rows) for j, number in enumerate(line)
            if any(number[0])}


def rows_go(root, rows, plane):
    """Whether rows with the head one go into a dict from powers to numbers over the root."""
    part, rest = rows_spread(rows), {key: number for key, number in plane.items() if any(number)}
    lead = max(part)
    while rest:
        top = max(rest)
        if top[0] < lead[0] or top[1] < lead[1]:
            return False
        factor = rest[top]
        for (i, j), number in part.items():
            key = (i + top[0] - lead[0], j + top[1] - lead[1])
            old = rest.get(key, over(root, []))
            rest[key] = tuple([a - b for a, b in zip(old, over_times(root, factor, number))])
            if not any(rest[key]):
                del rest[key]
    return True


def plane_over(root, plane):
    """The dict of a plane, with numbers over the root."""
    return {key: over(root, [number]) for key, number in spread(plane).items()}


# Modulo a prime.

def rank_modulo(rows, width, prime):
    """How many columns are free modulo the prime."""
    table, done = [[number % prime for number in row] for row in rows], 0
    for place in range(width):
        fit = [at for at in range(done, len(table)) if table[at][place]]
        if fit:
            table[done], table[fit[0]] = table[fit[0]], table[done]
            inverse = pow(table[done][place], -1, prime)
            for at in range(done + 1, len(table)):
                factor = table[at][place] * inverse
                table[at] = [(a - factor * b) % prime for a, b in zip(table[at], table[done])]
            done += 1
    return done


def modulo(terms, prime):
    """The dict of the rests that are not 0."""
    return {key: number % prime for key, number in terms.items() if number % prime}


def goes_modulo(part, whole, prime):
    """Whether a dict of rests, not nought, goes into another one modulo the prime."""
    rest, lead = dict(whole), max(part)
    inverse = pow(part[lead], -1, prime)
    while rest:
        top = max(rest)
        if top[0] < lead[0] or top[1] < lead[1]:
            return False
        factor = rest[top] * inverse
        rest = modulo(spread_plus(rest, {(i + top[0] - lead[0], j + top[1] - lead[1]): number
                                         for (i, j), number in part.items()}, -factor), prime)
    return True


# Polynomials in one letter with numbers over a root: lists of tuples of fractions from the power 0 on.

def over_line(root, line):
    """The polynomial of a line."""
    return over_cut([over(root, [number]) for number in line])


def over_cut(numbers):
    numbers = list(numbers)
    while numbers and not any(numbers[-1]):
        numbers.pop()
    return numbers


def over_plus(one, two):
    return tuple([a + b for a, b in zip(one, two)])


def over_poly_plus(root, one, two):
    size, nought = max(len(one), len(two)), over(root, [])
    one, two = list(one) + [nought] * (size - len(one)), list(two) + [nought] * (size - len(two))
    return over_cut([over_plus(a, b) for a, b in zip(one, two)])


def over_poly_times(root, factor, poly):
    """Each number times the factor."""
    return over_cut([over_times(root, factor, number) for number in poly])


def over_inverse(root, one):
    """One divided by a number that is not nought."""
    columns = [over(root, [0] * power + list(one)) for power in range(len(root) - 1)]
    return tuple(solved(columns, list(over(root, [1]))))


def over_common(root, one, two):
    """The common part with the last number one; [] of twice []."""
    while two:
        inverse, rest = over_inverse(root, two[-1]), list(one)
        while len(rest) >= len(two):
            factor = over_times(root, rest[-1], inverse)
            shift = [over(root, [])] * (len(rest) - len(two))
            less = shift + over_poly_times(root, tuple([-part for part in factor]), two)
            rest = over_poly_plus(root, rest, less)
        one, two = two, rest
    return over_poly_times(root, over_inverse(root, one[-1]), one) if one else []


def over_value(root, poly, place):
    """What comes when a number over the root is put for the letter."""
    total = over(root, [])
    for number in poly[::-1]:
        total = over_plus(over_times(root, total, place), number)
    return total
