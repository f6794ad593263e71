"""What values are: INTEGERS, COUNTS, lists, positions, FRACTIONS."""

from math import gcd

from curvepieces.errors import InvalidMany, InvalidNumber


def is_integer(value):
    """Whether any value is an INTEGER: True and False are none."""
    return isinstance(value, int) and not isinstance(value, bool)


def is_count(value, most):
    """Whether any value is a COUNT that is at most the bound."""
    return is_integer(value) and 0 <= value <= most


def is_list(value):
    """Whether any value is let where a list is told."""
    return isinstance(value, (list, tuple))


def is_positions(value, size):
    """Whether any value is a list of unlike positions below the size."""
    if not is_list(value):
        return False
    if not all([is_integer(at) and 0 <= at < size for at in value]):
        return False
    return len(set(value)) == len(value)


def copied(value):
    """The value with new lists and tuples, also inside."""
    if isinstance(value, list):
        return [copied(part) for part in value]
    if isinstance(value, tuple):
        return tuple([copied(part) for part in value])
    return value


def check_number(number):
    """InvalidNumber unless an INTEGER."""
    if not is_integer(number):
        raise InvalidNumber(number)


def check_many(many, most):
    """InvalidMany unless a COUNT that is at most the bound."""
    if not is_count(many, most):
        raise InvalidMany(many)


def fraction(top, bottom):
    """The FRACTION of the top and the bottom, which is above 0."""
    common = gcd(top, bottom)
    return top // common, bottom // common
