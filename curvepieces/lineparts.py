"""Parts of lines: plain parts, whole roots, monic parts."""

from math import isqrt

from curvepieces.errors import InvalidLine, ZeroLine
from curvepieces.lines import check_line, is_line
from curvepieces.polys import poly_common, poly_plain, poly_quotient, poly_slope, poly_times, poly_value

MONIC_DEGREE = 4


def plain_parts(line):
    """The sorted list of the plain parts and how often each goes into the line."""
    _check_not_nought(line)
    whole = poly_plain(line)
    # In "often" each root stands once less than in what is left; so step by step only more frequent roots stay.
    often = poly_common(whole, poly_slope(whole))
    once = poly_quotient(whole, often)
    found, times = [], 1
    while len(once) > 1:
        later = poly_common(often, once)
        part = poly_quotient(once, later)
        if len(part) > 1:
            found.append((part, times))
        often = poly_quotient(often, later)
        once = later
        times += 1
    return sorted(found)


def _check_not_nought(line):
    """InvalidLine unless a line, then ZeroLine if it is []."""
    check_line(line)
    if len(line) == 0:
        raise ZeroLine()


def whole_roots(line):
    """The sorted list of all INTEGERS that are roots of the line, each once."""
    _check_not_nought(line)
    return _roots(line)


def _roots(numbers):
    """The sorted INTEGER roots of a polynomial that is not []."""
    return [floor for floor in _floors(numbers) if poly_value(numbers, floor) == 0]


def _floors(numbers):
    """Sorted INTEGERS, among them the greatest one that is not above r, for each real root r."""
    if len(numbers) < 2:
        return []
    turns = _floors(poly_slope(numbers))
    bound = max([abs(number) for number in numbers]) // abs(numbers[-1]) + 2
    found = list(turns)
    # Between a turn, one added, and the next turn the slope has no root: the values only rise or only fall there.
    for low, high in zip([-bound - 1] + turns, turns + [bound]):
        if low < high:
            found.extend(_crossing(numbers, low + 1, high))
    return sorted(set(found))


def _crossing(numbers, low, high):
    """The floor of the root from low to high, in a list, where the values only rise or only fall; [] if none."""
    end = poly_value(numbers, high)
    if end == 0:
        return [high]
    if poly_value(numbers, low) * end > 0:
        return []
    while high - low > 1:
        middle = (low + high) // 2
        if poly_value(numbers, middle) * end > 0:
            high = middle
        else:
            low = middle
    return [low]


def monic_parts(line):
    """The sorted list of the monic parts of the line, each as often as it goes in."""
    if not is_line(line) or len(line) < 2 or len(line) > MONIC_DEGREE + 1 or line[-1] != 1:
        raise InvalidLine(line)
    rest, found = list(line), []
    for root in _roots(line):
        while poly_value(rest, root) == 0:
            rest = poly_quotient(rest, [-root, 1])
            found.append([-root, 1])
    if len(rest) == 5:
        found.extend(_two_parts(rest))
    elif len(rest) > 1:
        found.append(rest)
    return sorted(found)


def _two_parts(line):
    """The parts of a line of degree 4, of the last number 1, without INTEGER roots.

    If it is (t t + p t + q) (t t + r t + s), then q + s is a root of a line of degree 3 that is told by its numbers.
    """
    d, c, b, a, _ = line
    third = [4 * b * d - a * a * d - c * c, a * c - 4 * d, -b, 1]
    for both in _roots(third):
        for q, s in _pairs(both, d):
            for p, r in _pairs(a, b - both):
                if poly_times([q, p, 1], [s, r, 1]) == line:
                    return [[q, p, 1], [s, r, 1]]
    return [line]


def _pairs(total, product):
    """The INTEGERS (in both sequences) that have this sum and this product."""
    square = total * total - 4 * product
    if square < 0 or isqrt(square) * isqrt(square) != square:
        return []
    # The square and the sum are both even or both odd, so nothing is lost by halving.
    first = (total + isqrt(square)) // 2
    return [(first, total - first), (total - first, first)]
