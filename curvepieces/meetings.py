"""Meetings of a curve and a form."""

from curvepieces.curves import check_curve, degree_of_lines
from curvepieces.equations import check_form, form_line
from curvepieces.errors import LiesOn, TooMany
from curvepieces.lineparts import plain_parts
from curvepieces.lines import LINE_DEGREE


def meetings(curve, form):
    """The plain parts at whose roots the curve meets the form, with how often; how often infinite time is a meeting."""
    check_curve(curve)
    check_form(form)
    line = form_line(curve, form)
    if len(line) == 0:
        raise LiesOn()
    every = degree_of_lines(curve) * form[1]
    if every > LINE_DEGREE:
        raise TooMany("degree", LINE_DEGREE)
    return plain_parts(line), every - (len(line) - 1)
