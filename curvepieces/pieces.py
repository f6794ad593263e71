"""Pieces of clean planes, told over roots."""

from curvepieces.errors import InvalidRows, TooMany
from curvepieces.fracparts import part_plane
from curvepieces.grids import grid_degrees
from curvepieces.lineparts import monic_parts
from curvepieces.planeparts import is_clean
from curvepieces.planes import PLANE_DEGREE
from curvepieces.rootnumbers import check_root, is_root
from curvepieces.rootrows import common_rows, has_head_one, is_rows, rows_go_into, rows_product
from curvepieces.slopeproducts import Products
from curvepieces.slopes import check_table_plane, piece_count


def pieces(plane):
    """The sorted list of the pieces of the plane, tuples (root, rows), one for each part line.

    The part lines are unlike and sorted, so the pieces are sorted as they come.
    """
    check_table_plane(plane)
    told = Products(plane)
    row = told.parting()
    first, found = told.mixed(row), []
    for root in monic_parts(told.own(row)):
        whole = part_plane(plane, told, row, root)
        found.append((root, common_rows(root, plane, whole, first)))
    return found


def product_over(root, rows):
    """The plain product of the rows over all roots of the line."""
    check_root(root)
    if not is_rows(root, rows):
        raise InvalidRows(rows)
    if (len(root) - 1) * max(grid_degrees(rows)) > PLANE_DEGREE:
        raise TooMany("degree", PLANE_DEGREE)
    return rows_product(root, rows)


def is_piece(plane, value):
    """Whether any value is a piece of the plane, whichever root was taken."""
    check_table_plane(plane)
    if not isinstance(value, tuple) or len(value) != 2:
        return False
    root, rows = value
    if not is_root(root) or not is_rows(root, rows) or not has_head_one(rows):
        return False
    many = len(root) - 1
    # The mates of a piece are unlike and go into the plane all together.
    if any([many * part > whole for part, whole in zip(grid_degrees(rows), grid_degrees(plane))]):
        return False
    if not rows_go_into(root, plane, rows):
        return False
    product = rows_product(root, rows)
    return is_clean(product) and piece_count(product) == many
