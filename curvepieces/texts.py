"""Lines, planes, curves and changes, written."""

from curvepieces.curves import check_curve
from curvepieces.letters import change_planes, check_change
from curvepieces.lines import check_line
from curvepieces.planes import check_plane


def line_text(line):
    """The line, written."""
    check_line(line)
    return _line_written(line)


def plane_text(plane):
    """The plane, written."""
    check_plane(plane)
    return _plane_written(plane)


def curve_text(curve):
    """The three lines of the curve, written."""
    check_curve(curve)
    return " : ".join([_line_written(line) for line in curve])


def change_text(change):
    """What x and y become by the change, written."""
    check_change(change)
    return " : ".join([_plane_written(plane) for plane in change_planes(change)])


def _line_written(line):
    """A polynomial in t, written."""
    return _written([(line[power], "t" * power) for power in range(len(line) - 1, -1, -1)])


def _plane_written(plane):
    """A polynomial in x and y, written."""
    return _written([(plane[i][j], "x" * i + "y" * j)
                     for i in range(len(plane) - 1, -1, -1) for j in range(len(plane[i]) - 1, -1, -1)])


def _written(terms):
    """The sum of the terms, numbers with their letters, in the sequence in which they stand."""
    told = ""
    for number, letters in terms:
        if number == 0:
            continue
        if told == "":
            sign = "-" if number < 0 else ""
        else:
            sign = " - " if number < 0 else " + "
        figures = "" if abs(number) == 1 and letters != "" else str(abs(number))
        told = told + sign + figures + letters
    return told if told != "" else "0"
