"""Products of slope rows of clean planes: the table of products, the one, own lines, the parting row."""

from curvepieces.errors import InvalidRow
from curvepieces.kinds import fraction, is_integer, is_list
from curvepieces.slopeproducts import Products
from curvepieces.slopes import check_table_plane


def product_table(plane):
    """For each two of the told rows the FRACTIONS of their product."""
    check_table_plane(plane)
    told = Products(plane)
    return [[[fraction(number, told.bottom) for number in mix] for mix in line] for line in told.products]


def one_row(plane):
    """The FRACTIONS of the one."""
    check_table_plane(plane)
    told = Products(plane)
    return [fraction(number, told.bottom) for number in told.one]


def _products_for(plane, row):
    """The plane's products, if the row is a list of as many INTEGERS as it has pieces."""
    check_table_plane(plane)
    told = Products(plane)
    if not is_list(row) or len(row) != len(told.firsts):
        raise InvalidRow(row)
    if not all([is_integer(number) for number in row]):
        raise InvalidRow(row)
    return told


def own_line(plane, row):
    """The own line of the slope row with the numbers of the row."""
    return _products_for(plane, row).own(row)


def parts_all(plane, row):
    """Whether the slope row with the numbers of the row parts all."""
    return _products_for(plane, row).parts(row)


def parting_row(plane):
    """The numbers of the parting row."""
    check_table_plane(plane)
    return Products(plane).parting()
