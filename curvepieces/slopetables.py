"""The table of a polynomial in x and y: its unknowns, its equations, and what solves them.

Nothing here checks what it is passed. (m, n) are the degrees, m is at least 1.
"""

from curvepieces.grids import grid_degrees, grid_trimmed
from curvepieces.polys import plain_numbers
from curvepieces.tables import determinant, solutions


def unknown_list(plane):
    """The unknowns: those of g, then those of h."""
    m, n = grid_degrees(plane)
    upper = [("g", i, j) for i in range(m) for j in range(n + 1)]
    return upper + [("h", i, j) for i in range(m + 1) for j in range(n)]


def equation_table(plane):
    """The rows of the table, by the powers of x, then of y."""
    m, n = grid_degrees(plane)
    columns = [_column(plane, unknown, m, n) for unknown in unknown_list(plane)]
    return [[column[at] for column in columns] for at in range(4 * m * n)]


def _column(plane, unknown, m, n):
    """By which numbers the unknown goes into each power of x and y of f g_y - f h_x - g f_y + h f_x."""
    word, i, j = unknown
    column = [0] * (4 * m * n)
    for p, line in enumerate(plane):
        for q, number in enumerate(line):
            if word == "g" and q + j > 0:
                column[(p + i) * 2 * n + q + j - 1] += (j - q) * number
            if word == "h" and p + i > 0:
                column[(p + i - 1) * 2 * n + q + j] += (p - i) * number
    return column


def least_bound(plane):
    """(2 m - 1) n: modulo a prime that is not above it, the table need not tell the count."""
    m, n = grid_degrees(plane)
    return (2 * m - 1) * n


def table_minor(table, equations, places):
    """The determinant of the table's numbers in these rows and columns."""
    return determinant([[table[at][place] for place in places] for at in equations])


def told_rows(plane):
    """For each loose unknown the slope row that is above 0 at it and 0 at the other loose ones.

    The loose unknown is the last one at which the row is not 0.
    """
    width = len(unknown_list(plane))
    return [_row_of(plane, plain_numbers(numbers)) for numbers in solutions(equation_table(plane), width)]


def _row_of(plane, numbers):
    """The tuple of planes in which the unknowns have these numbers."""
    m, n = grid_degrees(plane)
    start = m * (n + 1)
    g = [numbers[i * (n + 1):(i + 1) * (n + 1)] for i in range(m)]
    h = [numbers[start + i * n:start + (i + 1) * n] for i in range(m + 1)]
    return grid_trimmed(g), grid_trimmed(h)


def numbers_of(plane, row):
    """The numbers of the unknowns in a tuple of planes."""
    parts = {"g": row[0], "h": row[1]}
    return [_number_at(parts[word], i, j) for word, i, j in unknown_list(plane)]


def _number_at(plane, i, j):
    """The number at x to the i, y to the j."""
    if i >= len(plane) or j >= len(plane[i]):
        return 0
    return plane[i][j]
