"""Rows over a root: polynomials in x and y with numbers over it; nothing is checked but by is_rows."""

from math import lcm

from curvepieces.grids import grid_at_y, grid_degrees, grid_determinant, grid_plain, grid_slope_x, grid_trimmed
from curvepieces.kinds import is_list
from curvepieces.planeparts import is_clean_place
from curvepieces.planes import PLANE_DEGREE
from curvepieces.polys import scaled
from curvepieces.rootfields import is_nought, is_one, is_over, led, over_common, over_divided, over_fitting
from curvepieces.rootfields import over_inverse, over_less, over_number, over_poly, over_scaled, over_times
from curvepieces.rootfields import over_trimmed


def is_rows(root, value):
    """Whether any value is rows over the root."""
    if not is_list(value) or len(value) < 1 or len(value) > PLANE_DEGREE + 1:
        return False
    return all([_is_row(root, line) for line in value]) and len(value[-1]) > 0


def _is_row(root, value):
    """Whether any value is a list of numbers over the root that does not end with nought."""
    if not is_list(value) or len(value) > PLANE_DEGREE + 1:
        return False
    if not all([is_over(root, number) for number in value]):
        return False
    return len(value) == 0 or not is_nought(value[-1])


def has_head_one(rows):
    """Whether the last number of the last one of the rows is one."""
    return is_one(rows[-1][-1])


def rows_product(root, rows):
    """The plain product of the rows over all roots of the line: the norm of the rows, in both letters."""
    bottom = _common_bottom(rows)
    columns = [_shifted(root, rows, bottom, power) for power in range(len(root) - 1)]
    table = [[grid_trimmed([[number[at] for number in line] for line in column]) for column in columns]
             for at in range(len(root) - 1)]
    return grid_plain(grid_determinant(table))


def _common_bottom(rows):
    """The least number above 0 that is a multiple of all bottoms."""
    bottom = 1
    for line in rows:
        for number in line:
            bottom = lcm(bottom, number[1])
    return bottom


def _shifted(root, rows, bottom, power):
    """The rows times the bottom and the power of the root, INTEGERS by its powers in the place of each number."""
    return [[led(root, [0] * power + scaled(numbers, bottom // part)) for numbers, part in line] for line in rows]


def rows_go_into(root, plane, rows):
    """Whether the rows, their head one, go into the plane over the root."""
    rest = [over_poly(root, line) for line in plane]
    for shift in range(len(plane) - len(rows), -1, -1):
        part = over_divided(root, rest[shift + len(rows) - 1], rows[-1])[0]
        for at, line in enumerate(rows):
            rest[shift + at] = _less_times(root, rest[shift + at], part, line)
    return not any([len(line) > 0 for line in rest])


def _less_times(root, poly, part, line):
    """The polynomial less the part times the line."""
    nought = over_number(root, [], 1)
    result = list(poly) + [nought] * (len(part) + len(line) - 1 - len(poly))
    for i, one in enumerate(part):
        for j, two in enumerate(line):
            result[i + j] = over_less(result[i + j], over_times(root, one, two))
    return over_trimmed(result)


def common_rows(root, plane, whole, first):
    """The common part, its head one, of a plane and of the first polynomial less the root times the plane's slope.

    The plane is clean, the first polynomial is of a slope row with own numbers unlike, the root its part line; whole
    is the part over the fractions that belongs to it, so that what is sought goes into it.

    At a clean place y0 for y the common part is had from lines in x alone, up to a number. Times the last line of
    the whole part at y0 it is the value at y0 of the sought one times those of its mates' last lines, of a degree
    in y of at most the whole part's. So this is had from enough places; then what all its lines have in common
    is taken out, since nothing free of x goes into a clean plane.
    """
    places = _clean_places(plane, grid_degrees(whole)[1] + 1)
    lines = [_common_at(root, plane, whole, first, place) for place in places]
    rows = [over_fitting(root, places, [line[at] for line in lines]) for at in range(len(lines[0]))]
    common = []
    for row in rows:
        common = over_common(root, common, row)
    rows = [over_divided(root, row, common)[0] for row in rows]
    inverse = over_inverse(root, rows[-1][-1])
    return [[over_times(root, number, inverse) for number in row] for row in rows]


def _clean_places(plane, many):
    """The least clean places of the plane that are COUNTS, so many."""
    found, place = [], 0
    while len(found) < many:
        if is_clean_place(plane, place):
            found.append(place)
        place += 1
    return found


def _common_at(root, plane, whole, first, place):
    """The common part of what is left at the place for y, times the last number of what the whole part leaves."""
    line, slope, other = grid_at_y(whole, place), grid_at_y(grid_slope_x(plane), place), grid_at_y(first, place)
    size = max(len(slope), len(other))
    pairs = list(zip(other + [0] * (size - len(other)), slope + [0] * (size - len(slope))))
    second = over_trimmed([over_number(root, [one, -two], 1) for one, two in pairs])
    common = over_common(root, over_poly(root, line), second)
    return [over_scaled(number, line[-1], 1) for number in common]
