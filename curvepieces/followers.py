"""Followers of curves, and the pairs of which all are made."""

from math import lcm

from curvepieces.curves import CURVE_SIZE, check_curve, degree_of_lines
from curvepieces.errors import InvalidFollower, InvalidPair
from curvepieces.kinds import check_many, is_list
from curvepieces.lines import is_line
from curvepieces.polys import plain_numbers, poly_divided, poly_less, poly_sum, poly_times, scaled, trimmed
from curvepieces.tables import solutions

FOLLOWER_DEGREE = 8


def is_follower(curve, value):
    """Whether any value is a follower of the curve, of a degree at most 8."""
    check_curve(curve)
    return _follows(curve, value)


def _follows(curve, value):
    """Whether any value is three lines of degrees at most 8 that, times those of the curve, come to nought."""
    if not is_list(value) or len(value) != CURVE_SIZE or not all([is_line(line) for line in value]):
        return False
    if degree_of_lines(value) > FOLLOWER_DEGREE:
        return False
    total = []
    for one, two in zip(value, curve):
        total = poly_sum(total, poly_times(one, two))
    return total == []


def follower_degrees(curve):
    """The tuple of the degrees of the pairs, the lesser one first."""
    check_curve(curve)
    return _degrees(curve)


def _degrees(curve):
    """The degrees of the pairs of a curve."""
    least = 0
    while len(_followers_to(curve, least)) == 0:
        least += 1
    return least, degree_of_lines(curve) - least


def _followers_to(curve, most):
    """Free followers of degrees at most this, as many as there are."""
    size = most + 1
    height = degree_of_lines(curve) + size
    columns = [[0] * power + list(line) for line in curve for power in range(size)]
    table = [[column[at] if at < len(column) else 0 for column in columns] for at in range(height)]
    found = []
    for numbers in solutions(table, CURVE_SIZE * size):
        least = plain_numbers(numbers)
        found.append([trimmed(least[at * size:(at + 1) * size]) for at in range(CURVE_SIZE)])
    return found


def followers(curve):
    """A pair of the curve."""
    check_curve(curve)
    lesser, greater = _degrees(curve)
    first = _followers_to(curve, lesser)[0]
    crossed = [second for second in _followers_to(curve, greater) if any(_cross(first, second))]
    return first, crossed[0]


def _cross(one, two):
    """The cross of two followers, a list of three polynomials."""
    p, q, r = one
    s, u, v = two
    return [poly_less(poly_times(q, v), poly_times(r, u)), poly_less(poly_times(r, s), poly_times(p, v)),
            poly_less(poly_times(p, u), poly_times(q, s))]


def is_pair(curve, value):
    """Whether any value is a pair of the curve, a tuple."""
    check_curve(curve)
    return _is_pair(curve, value)


def _is_pair(curve, value):
    """Whether any value is a tuple of two followers, of rising degrees that add up to the curve's, not crossless."""
    if not isinstance(value, tuple) or len(value) != 2:
        return False
    if not all([_follows(curve, follower) for follower in value]):
        return False
    lesser, greater = [degree_of_lines(follower) for follower in value]
    if lesser > greater or lesser + greater != degree_of_lines(curve):
        return False
    return any(_cross(value[0], value[1]))


def follower_count(curve, many):
    """How many followers of a degree at most this are free over the fractions."""
    check_curve(curve)
    check_many(many, FOLLOWER_DEGREE)
    return sum([max(0, many - degree + 1) for degree in _degrees(curve)])


def by_pair(curve, pair, follower):
    """The least number above 0, and the lines, by which the number times the follower is made of the pair."""
    check_curve(curve)
    if not _is_pair(curve, pair):
        raise InvalidPair(pair)
    if not _follows(curve, follower):
        raise InvalidFollower(follower)
    first, second = pair
    cross = _cross(first, second)
    at = [place for place in range(CURVE_SIZE) if len(cross[place]) > 0][0]
    # Crossed with one of the pair, a follower keeps the other one's share alone.
    one = poly_divided(_cross(follower, second)[at], cross[at])
    two = poly_divided(_cross(first, follower)[at], cross[at])
    number = lcm(one[0], two[0])
    return number, scaled(one[1], number // one[0]), scaled(two[1], number // two[0])
