"""The parts of a clean plane over the fractions."""

from curvepieces.grids import grid_common
from curvepieces.lineparts import monic_parts
from curvepieces.slopeproducts import Products
from curvepieces.slopes import check_table_plane


def part_lines(plane):
    """The sorted list of the part lines."""
    check_table_plane(plane)
    told = Products(plane)
    return monic_parts(told.own(told.parting()))


def fraction_parts(plane):
    """The sorted list of the whole plain parts, each with into how many pieces it falls over all numbers."""
    check_table_plane(plane)
    told = Products(plane)
    row = told.parting()
    return sorted([(part_plane(plane, told, row, line), len(line) - 1) for line in monic_parts(told.own(row))])


def part_plane(plane, told, row, line):
    """The plain part over the fractions that belongs to one of the part lines.

    The plane is clean, told its products, row its parting row; nothing is checked.
    """
    return grid_common(plane, told.mixed(told.put_in(line, row)))


def is_whole(plane):
    """Whether the plane is whole."""
    return len(part_lines(plane)) == 1
