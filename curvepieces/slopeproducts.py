"""Products of the slope rows of a clean plane, unchecked: (m, n) are its degrees, m is at least 1.

All is told by the lines in x that are left at one clean place for y. There a slope row's line, divided by the slope
of what the plane leaves, has at the roots of each piece its own number for it; so two mixes of the told rows that are
not alike leave lines that are not alike, and products of lines, up to multiples of the plane's, tell those of rows.
"""

from math import lcm

from curvepieces.grids import grid_at_y, grid_scaled, grid_sum
from curvepieces.planeparts import least_clean_place
from curvepieces.polys import content, poly_common, poly_divided, poly_plain, poly_slope, poly_times
from curvepieces.slopetables import told_rows
from curvepieces.tables import eliminated


class Products:
    """The told rows' first polynomials, and the numbers of all their products and of the one, over one bottom."""

    def __init__(self, plane):
        self.firsts = [row[0] for row in told_rows(plane)]
        many = len(self.firsts)
        bottom, mixes = _product_mixes(plane, self.firsts)
        common = content([bottom] + [number for mix in mixes for number in mix])
        self.bottom = bottom // common
        tops = [[number // common for number in mix] for mix in mixes]
        self.one = tops[0]
        self.products = [tops[1 + i * many:1 + (i + 1) * many] for i in range(many)]

    def table_by(self, row):
        """The table, over the bottom, by which the told rows are multiplied by the row of these numbers."""
        many = len(row)
        return [[sum([row[i] * self.products[i][j][k] for i in range(many)]) for k in range(many)]
                for j in range(many)]

    def own(self, row):
        """The own line of the row of these numbers."""
        return _own_poly(self.table_by(row), self.bottom)

    def parts(self, row):
        """Whether the row of these numbers parts all."""
        line = self.own(row)
        return poly_common(line, poly_slope(line)) == [1]

    def parting(self):
        """The numbers of the parting row."""
        base = 0
        row = _powers(base, len(self.firsts))
        while not self.parts(row):
            base += 1
            row = _powers(base, len(self.firsts))
        top = self.own(row)[-1]
        return [top * number for number in row]

    def put_in(self, line, row):
        """Numbers, times a number not 0, of what comes of the line if the row is put in for its letter."""
        table, many = self.table_by(row), len(row)
        result, bottom = [0] * many, 1
        for number in line[::-1]:
            # Each step multiplies by a table over the bottom and adds ones over it.
            moved = [sum([result[j] * table[j][k] for j in range(many)]) for k in range(many)]
            result = [a + number * bottom * b for a, b in zip(moved, self.one)]
            bottom = bottom * self.bottom
        return result

    def mixed(self, numbers):
        """The first polynomial of the slope row with these numbers."""
        result = []
        for number, first in zip(numbers, self.firsts):
            result = grid_sum(result, grid_scaled(first, number))
        return result


def _powers(base, many):
    """So many powers of the base, from the power 0 on."""
    result, power = [], 1
    for _ in range(many):
        result.append(power)
        power = power * base
    return result


def _product_mixes(plane, firsts):
    """(bottom, mixes): a number above 0; lists of numbers over it, of the one and behind it of all products."""
    place = least_clean_place(plane)
    line = grid_at_y(plane, place)
    slope = poly_slope(line)
    lines = [grid_at_y(first, place) for first in firsts]
    # The slope times the one is the slope times itself.
    pairs = [poly_times(slope, slope)] + [poly_times(one, two) for one in lines for two in lines]
    columns = _rests([poly_times(slope, one) for one in lines] + pairs, line)
    table = [[column[at] for column in columns] for at in range(len(line) - 1)]
    solved, _, pivot = eliminated(table, len(lines))
    sign = -1 if pivot < 0 else 1
    return sign * pivot, [[sign * row[len(lines) + at] for row in solved] for at in range(len(pairs))]


def _rests(polys, line):
    """The rests of the polynomials by the line, all times the same number, with noughts behind them."""
    found, common = [], 1
    for poly in polys:
        least, _, rest = poly_divided(poly, line)
        found.append((least, rest + [0] * (len(line) - 1 - len(rest))))
        common = lcm(common, least)
    return [[common // factor * number for number in numbers] for factor, numbers in found]


def _own_poly(rows, bottom):
    """The plain polynomial that is, up to a number, the determinant of t from corner to corner less the rows.

    The rows are over the bottom. By falling powers each number of the determinant is had from those ahead of it: less
    the sum from corner to corner, divided by how many there are, of a table that is the rows times the last one.
    """
    many = len(rows)
    falling, table = [1], [[0] * many for _ in range(many)]
    for step in range(1, many + 1):
        added = [[entry + falling[-1] if i == j else entry for j, entry in enumerate(row)]
                 for i, row in enumerate(table)]
        table = [[sum([row[k] * added[k][j] for k in range(many)]) for j in range(many)] for row in rows]
        falling.append(-sum([table[i][i] for i in range(many)]) // step)
    rising, factor = [], 1
    for number in falling[::-1]:
        rising.append(number * factor)
        factor = factor * bottom
    return poly_plain(rising)
