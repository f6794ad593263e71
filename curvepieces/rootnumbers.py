"""Roots, numbers over a root, their norms."""

from curvepieces.errors import DividedByNought, InvalidRoot, InvalidValue
from curvepieces.kinds import fraction
from curvepieces.lineparts import MONIC_DEGREE, monic_parts
from curvepieces.lines import is_line, resultant
from curvepieces.polys import trimmed
from curvepieces.rootfields import is_nought, is_over, over_inverse, over_sum, over_times


def is_root(value):
    """Whether any value is a root."""
    if not is_line(value) or len(value) < 2 or len(value) > MONIC_DEGREE + 1 or value[-1] != 1:
        return False
    return len(monic_parts(value)) == 1


def check_root(root):
    """InvalidRoot unless a root."""
    if not is_root(root):
        raise InvalidRoot(root)


def is_number(root, value):
    """Whether any value is a number over the root."""
    check_root(root)
    return is_over(root, value)


def _check_values(root, *values):
    """InvalidRoot unless a root, then InvalidValue unless all values are numbers over it."""
    check_root(root)
    for value in values:
        if not is_over(root, value):
            raise InvalidValue(value)


def root_plus(root, one, other):
    """The sum of both numbers over the root."""
    _check_values(root, one, other)
    return over_sum(one, other)


def root_times(root, one, other):
    """The product of both numbers over the root."""
    _check_values(root, one, other)
    return over_times(root, one, other)


def root_over(root, one, other):
    """The one number over the root, divided by the other one."""
    _check_values(root, one, other)
    if is_nought(other):
        raise DividedByNought()
    return over_times(root, one, over_inverse(root, other))


def norm(root, one):
    """The FRACTION that is the product of what the number tells for each root of the line."""
    _check_values(root, one)
    numbers, bottom = one
    if is_nought(one):
        return fraction(0, 1)
    whole = 1
    for _ in range(len(root) - 1):
        whole = whole * bottom
    # The line's last number is 1: with it the resultant has no further factor.
    return fraction(resultant(root, trimmed(numbers)), whole)
