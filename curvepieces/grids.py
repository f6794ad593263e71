"""Polynomials in x and y, of any degrees: lists of polynomials in y by the powers of x, the last one not [].

Nothing here checks what it is passed; tuples are let for lists, what is returned is new, also inside.
"""

from curvepieces.polys import content, poly_common, poly_less, poly_quotient, poly_slope, poly_sum, poly_times
from curvepieces.polys import poly_value, scaled, trimmed


def grid_trimmed(rows):
    """The rows without noughts at their ends, and without empty rows behind the last one that is not."""
    lines = [trimmed(row) for row in rows]
    while len(lines) > 0 and len(lines[-1]) == 0:
        lines.pop()
    return lines


def grid_degrees(plane):
    """The greatest powers of x and of y, a tuple; (-1, -1) of []."""
    return len(plane) - 1, max([len(line) for line in plane], default=0) - 1


def grid_total(plane):
    """The greatest sum of both powers in one term of a polynomial that is not []."""
    return max([power + len(line) - 1 for power, line in enumerate(plane) if len(line) > 0])


def grid_scaled(plane, factor):
    """Each number times the factor."""
    return grid_trimmed([scaled(line, factor) for line in plane])


def grid_sum(one, two):
    """Both added."""
    long, short = (one, two) if len(one) >= len(two) else (two, one)
    both = [poly_sum(first, second) for first, second in zip(long, short)]
    return grid_trimmed(both + list(long[len(short):]))


def grid_less(one, two):
    """The first one less the second one."""
    return grid_sum(one, grid_scaled(two, -1))


def grid_times(one, two):
    """Both multiplied."""
    if len(one) == 0 or len(two) == 0:
        return []
    result = [[] for _ in range(len(one) + len(two) - 1)]
    for i, first in enumerate(one):
        for j, second in enumerate(two):
            result[i + j] = poly_sum(result[i + j], poly_times(first, second))
    return result


def grid_at_x(plane, place):
    """The polynomial in y that is left with the place for x."""
    result = []
    for line in plane[::-1]:
        result = poly_sum(scaled(result, place), line)
    return result


def grid_at_y(plane, place):
    """The polynomial in x that is left with the place for y."""
    return trimmed([poly_value(line, place) for line in plane])


def grid_slope_x(plane):
    """The slope by x."""
    return [scaled(line, power) for power, line in enumerate(plane) if power > 0]


def grid_slope_y(plane):
    """The slope by y."""
    return grid_trimmed([poly_slope(line) for line in plane])


def grid_exchanged(plane):
    """x called y and y called x."""
    height = grid_degrees(plane)[1] + 1
    return grid_trimmed([[line[j] if j < len(line) else 0 for line in plane] for j in range(height)])


def grid_plain(plane):
    """The plain polynomial of which the plane is a multiple."""
    if len(plane) == 0:
        return []
    common = content([content(line) for line in plane])
    if plane[-1][-1] < 0:
        common = -common
    return [[number // common for number in line] for line in plane]


def grid_quotient(one, two):
    """The polynomial with INTEGERS that, times two, is one; None if there is none."""
    rest, parts = list(one), []
    for shift in range(len(one) - len(two), -1, -1):
        part = poly_quotient(rest[shift + len(two) - 1], two[-1])
        if part is None:
            return None
        parts.append(part)
        for i, line in enumerate(two):
            rest[shift + i] = poly_less(rest[shift + i], poly_times(part, line))
    if any([len(line) > 0 for line in rest]):
        return None
    return parts[::-1]


def grid_determinant(table):
    """The determinant of a table of polynomials in x and y, by its first row."""
    if len(table) == 1:
        return table[0][0]
    total = []
    for at, entry in enumerate(table[0]):
        if len(entry) == 0:
            continue
        smaller = [row[:at] + row[at + 1:] for row in table[1:]]
        part = grid_times(entry, grid_determinant(smaller))
        total = grid_sum(total, part) if at % 2 == 0 else grid_less(total, part)
    return total


def grid_common(one, two):
    """The plain common part of both; [] of twice 0.

    A place is put for y, and from the common part of what is left y is brought back. What comes, made plain, is
    sought as long as it does not go into both.

    Then it is the whole common part. Let H be what would be missing, d the common divisor by which it was made plain:
    H at the place divides d, and d is at most half the place. H goes into the one of both with the lesser numbers,
    so all roots of its lines are nearer to 0 than half the place less 1/2: its last line is not nought there, so H
    has no x, and if it had y, its value there would be above half the place.
    """
    if len(one) == 0 or len(two) == 0:
        return grid_plain(one) if len(two) == 0 else grid_plain(two)
    first, second = grid_plain(one), grid_plain(two)
    place = 2 * min(_tallest(first), _tallest(second)) + 3
    while True:
        found = grid_plain(_brought_back(_common_at(first, second, place), place))
        if grid_quotient(first, found) is not None and grid_quotient(second, found) is not None:
            return found
        place = 8 * place + 1


def _tallest(plane):
    """The greatest of all numbers without their signs."""
    return max([abs(number) for line in plane for number in line])


def _common_at(one, two, place):
    """The common part, its common divisor included, of what is left of both at the place for y."""
    first, second = grid_at_y(one, place), grid_at_y(two, place)
    return scaled(poly_common(first, second), content(first + second))


def _brought_back(numbers, place):
    """The polynomial of numbers at most half the place that, at it for y, is left as these numbers."""
    rows = []
    for number in numbers:
        row, left = [], number
        while left != 0:
            digit = left % place
            if 2 * digit > place:
                digit -= place
            row.append(digit)
            left = (left - digit) // place
        rows.append(row)
    return rows
