"""Tables of INTEGERS, lists of rows: determinants, which rows and columns are bound, what solves all rows.

All steps stay within INTEGERS: after each one, every number is a minor of the table, so the division by the pivot
of the step ahead leaves no rest.
"""


def determinant(rows):
    """The determinant of a table with as many columns as rows; 1 of none."""
    table = list(rows)
    sign, last = 1, 1
    for at in range(len(table)):
        fit = [k for k in range(at, len(table)) if table[k][at] != 0]
        if len(fit) == 0:
            return 0
        if fit[0] != at:
            table[at], table[fit[0]] = table[fit[0]], table[at]
            sign = -sign
        for k in range(at + 1, len(table)):
            table[k] = _cleared(table[k], table[at], at, last)
        last = table[at][at]
    return sign * last


def _cleared(row, pivot_row, column, last):
    """The row with a nought in the column, by the pivot's row."""
    pivot, number = pivot_row[column], row[column]
    return [(pivot * a - number * b) // last for a, b in zip(row, pivot_row)]


def eliminated(rows, width):
    """(rows, bound, pivot): the bound columns, and for each one a row.

    The row has the pivot in its own bound column, 0 in the others; the rows have the same solutions as the table.
    """
    table = list(rows)
    bound, last = [], 1
    for column in range(width):
        at = len(bound)
        fit = [k for k in range(at, len(table)) if table[k][column] != 0]
        if len(fit) == 0:
            continue
        table[at], table[fit[0]] = table[fit[0]], table[at]
        for k in range(len(table)):
            if k != at:
                table[k] = _cleared(table[k], table[at], column, last)
        last = table[at][column]
        bound.append(column)
    return table[:len(bound)], bound, last


def bound_places(rows):
    """(rows, columns, minor): the positions of the rows, and of the columns, that are bound.

    These are no sum of those ahead of them, each times a number. The minor, without its sign, is that of both.
    """
    kept, found = [], []
    for at, row in enumerate(rows):
        left, last = row, 1
        for pivot_row, column in kept:
            left = _cleared(left, pivot_row, column, last)
            last = pivot_row[column]
        fit = [column for column, number in enumerate(left) if number != 0]
        if len(fit) > 0:
            kept.append((left, fit[0]))
            found.append(at)
    # Each mix of what is kept has its first number that is not 0 in one of these columns: just these are bound.
    minor = abs(kept[-1][0][kept[-1][1]]) if len(kept) > 0 else 1
    return found, sorted([column for _, column in kept]), minor


def solutions(rows, width):
    """For each column that is not bound the numbers that solve all rows, 0 at the other such columns."""
    table, bound, pivot = eliminated(rows, width)
    found = []
    for loose in range(width):
        if loose in bound:
            continue
        numbers = [0] * width
        numbers[loose] = pivot
        for row, column in zip(table, bound):
            numbers[column] = -row[loose]
        found.append(numbers)
    return found


def sylvester(one, two, nought):
    """Sylvester's table of polynomials in one letter, told with noughts of the kind of their numbers.

    It has as many rows of each one as the other one's degree tells, each row one place further to the right.
    """
    m, n = len(one) - 1, len(two) - 1
    above = [[nought] * i + list(one[::-1]) + [nought] * (n - 1 - i) for i in range(n)]
    below = [[nought] * i + list(two[::-1]) + [nought] * (m - 1 - i) for i in range(m)]
    return above + below
