"""Claims: what they say, whether they are true, their contraries, their papers."""

from curvepieces.curves import is_curve
from curvepieces.equations import is_form, lies_on
from curvepieces.errors import InvalidClaim
from curvepieces.followers import follower_degrees
from curvepieces.fracparts import is_whole
from curvepieces.kinds import copied, is_count
from curvepieces.papers import PIECES_MOST, paper_for, shows
from curvepieces.planeparts import goes_into, is_clean
from curvepieces.planes import is_plane
from curvepieces.slopes import piece_count

ROWS = (("pieces", "otherwise"), ("clean", "double"), ("within", "outside"), ("whole", "splits"),
        ("degrees", "unlike"), ("along", "aside"))
DEGREES_MOST = 5


def words():
    """The list of the tuples of a claim's word and its contrary's."""
    return list(ROWS)


def is_claim(value):
    """Whether any value is a claim."""
    if not isinstance(value, tuple) or len(value) == 0 or not isinstance(value[0], str):
        return False
    for row in ROWS:
        if value[0] in row:
            return _are_parts(row[0], value[1:])
    return False


def _are_parts(first, parts):
    """Whether the parts are those of the claims of the row of this first word."""
    if first in ("clean", "whole"):
        # A plane of a degree in x of at least 1, or one that is not [].
        return len(parts) == 1 and is_plane(parts[0]) and len(parts[0]) > (1 if first == "clean" else 0)
    if len(parts) != 2:
        return False
    match first:
        case "pieces":
            return is_plane(parts[0]) and is_count(parts[1], PIECES_MOST)
        case "within":
            return all([is_plane(part) and len(part) > 0 for part in parts])
        case "degrees":
            return is_curve(parts[0]) and is_count(parts[1], DEGREES_MOST)
        case _:
            return is_curve(parts[0]) and is_form(parts[1])


def _check_claim(claim):
    """InvalidClaim unless a claim."""
    if not is_claim(claim):
        raise InvalidClaim(claim)


def _row_of(word):
    """The two words of the row with this word."""
    return [row for row in ROWS if word in row][0]


def is_true(claim):
    """Whether the claim is true."""
    _check_claim(claim)
    first, _ = _row_of(claim[0])
    return _holds(first, claim[1:]) == (claim[0] == first)


def _holds(first, parts):
    """Whether the claim of this first word of a row is true."""
    match first:
        case "pieces":
            return piece_count(parts[0]) == parts[1]
        case "clean":
            return is_clean(parts[0])
        case "within":
            return goes_into(parts[0], parts[1])
        case "whole":
            return is_whole(parts[0])
        case "degrees":
            return follower_degrees(parts[0])[0] == parts[1]
        case _:
            return lies_on(parts[0], parts[1])


def contrary(claim):
    """The contrary claim, with new lists and tuples."""
    _check_claim(claim)
    first, other = _row_of(claim[0])
    word = other if claim[0] == first else first
    return (word,) + copied(claim[1:])


def paper_of(claim):
    """A paper of the claim; None if it is not true, or if its kind has none."""
    if not is_true(claim):
        return None
    return paper_for(claim[0], claim[1:])


def is_paper_of(claim, value):
    """Whether any value is a paper of the claim."""
    _check_claim(claim)
    return shows(claim[0], claim[1:], value)
