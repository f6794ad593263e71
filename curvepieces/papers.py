"""Papers of claims: what shows that a claim is true. The claims are checked already.

Of each row of claims the one word is told; parts are what stands behind it in the claim.
"""

from curvepieces.equations import equation, form_line, is_form
from curvepieces.followers import follower_degrees, followers, is_pair
from curvepieces.fracparts import fraction_parts
from curvepieces.grids import grid_at_x, grid_at_y, grid_degrees, grid_plain, grid_quotient, grid_scaled, grid_times
from curvepieces.kinds import is_count, is_integer
from curvepieces.planeparts import goes_into, is_clean, is_clean_place, least_clean_place, plane_common
from curvepieces.planes import is_plane, slope_x
from curvepieces.polys import poly_divided, poly_value
from curvepieces.slopes import TABLE_DEGREE, count_paper, is_count_paper, piece_count

PIECES_MOST = 8


def paper_for(word, parts):
    """A paper of the true claim of this word; None if its kind has none."""
    match word:
        case "pieces":
            return count_paper(parts[0])
        case "otherwise":
            return piece_count(parts[0]), count_paper(parts[0])
        case "clean":
            return least_clean_place(parts[0])
        case "double":
            return plane_common(parts[0], slope_x(parts[0]))
        case "within":
            return _factor_and_quotient(parts[0], parts[1])
        case "outside":
            return _leaving_place(parts[0], parts[1])
        case "splits":
            return fraction_parts(parts[0])[0][0]
        case "degrees" | "unlike":
            return followers(parts[0])
        case "along":
            plane, many = parts[1]
            own, letters = equation(parts[0])
            return 1, (grid_quotient(plane, own), many - letters)
        case "aside":
            return _time_aside(parts[0], parts[1])
        case _:
            return None


def _factor_and_quotient(plane, other):
    """(number, quotient): the plane times the number is the other one, which goes into it, times the quotient."""
    plain = grid_plain(other)
    return other[-1][-1] // plain[-1][-1], grid_quotient(plane, plain)


def _leaving_place(plane, other):
    """(letter, number) with which the other one, that does not go into the plane, does not go into what is left.

    If it went in for all numbers but finitely many, for each of both letters, what is left of it without the common
    part of both would be free of either letter.
    """
    place = 0
    while True:
        for letter in ("x", "y"):
            if not _goes_at(plane, other, letter, place):
                return letter, place
        place += 1


def _goes_at(plane, other, letter, number):
    """Whether, with the number for the letter, what is left of the other one goes into what is left of the plane."""
    if letter == "x":
        line, part = grid_at_x(plane, number), grid_at_x(other, number)
    else:
        line, part = grid_at_y(plane, number), grid_at_y(other, number)
    if len(part) == 0:
        return len(line) == 0
    return len(poly_divided(line, part)[2]) == 0


def _time_aside(curve, form):
    """The least COUNT at which the curve's point is not on the form."""
    line, time = form_line(curve, form), 0
    while poly_value(line, time) == 0:
        time += 1
    return time


def shows(word, parts, value):
    """Whether any value is a paper of the claim of this word."""
    match word:
        case "pieces":
            return _shows_count(parts[0], parts[1], value)
        case "otherwise":
            return (_is_two(value) and is_count(value[0], PIECES_MOST) and value[0] != parts[1] and
                    _shows_count(parts[0], value[0], value[1]))
        case "clean":
            return is_integer(value) and value >= 0 and is_clean(parts[0]) and is_clean_place(parts[0], value)
        case "double":
            return _is_part(value) and goes_into(parts[0], value) and goes_into(slope_x(parts[0]), value)
        case "within":
            return _shows_within(parts[0], parts[1], value)
        case "outside":
            return (_is_two(value) and isinstance(value[0], str) and value[0] in ("x", "y") and
                    is_integer(value[1]) and not _goes_at(parts[0], parts[1], value[0], value[1]))
        case "splits":
            return _is_part(value) and goes_into(parts[0], value) and not goes_into(value, parts[0])
        case "degrees":
            return is_pair(parts[0], value) and follower_degrees(parts[0])[0] == parts[1]
        case "unlike":
            return is_pair(parts[0], value) and follower_degrees(parts[0])[0] != parts[1]
        case "along":
            return _shows_along(parts[0], parts[1], value)
        case "aside":
            return is_integer(value) and poly_value(form_line(parts[0], parts[1]), value) != 0
        case _:
            return False


def _is_two(value):
    """Whether any value is a tuple of two."""
    return isinstance(value, tuple) and len(value) == 2


def _is_part(value):
    """Whether any value is a plane and no number."""
    return is_plane(value) and max(grid_degrees(value)) > 0


def _is_factor(value):
    """Whether any value is an INTEGER but 0."""
    return is_integer(value) and value != 0


def _shows_count(plane, many, value):
    """Whether any value is a count paper that the plane has this many pieces; False where such can't be."""
    if not is_clean(plane) or max(grid_degrees(plane)) > TABLE_DEGREE:
        return False
    return is_count_paper(plane, many, value)


def _shows_within(plane, other, value):
    """Whether any value is a factor, with which the plane is the other one times a plane, and this plane."""
    if not _is_two(value) or not _is_factor(value[0]) or not is_plane(value[1]):
        return False
    return grid_scaled(plane, value[0]) == grid_times(other, value[1])


def _shows_along(curve, form, value):
    """Whether any value is a factor, with which the form is the curve's equation times a form, and this form."""
    if not _is_two(value) or not _is_factor(value[0]) or not is_form(value[1]):
        return False
    own, letters = equation(curve)
    return form[1] == letters + value[1][1] and grid_scaled(form[0], value[0]) == grid_times(own, value[1][0])
