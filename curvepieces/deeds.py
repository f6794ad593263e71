"""What commands are given of what is kept, and what deeds make of it."""

from curvepieces.commands import DEEDS, NUMBER_FIGURES, command_parts, command_word, wanted_kinds
from curvepieces.curves import by_time, check_curve
from curvepieces.equations import equation
from curvepieces.errors import LabelTaken, NameTaken
from curvepieces.letters import changed, check_change, exchanged
from curvepieces.planeparts import plane_common, plane_quotient
from curvepieces.planes import at_y, plain_plane, plane_less, plane_sum, plane_times, slope_x
from curvepieces.products import own_line, parting_row
from curvepieces.reading import read, told_by
from curvepieces.shelves import check_label, kind_of, thing_of, with_claim, with_thing, without_claim, without_thing

# Of which kind is what a deed makes, where it is no plane.
MADE = {"line": "line", "row": "line", "parting": "line", "curve": "curve", "drawn": "curve", "lead": "curve",
        "change": "change"}


def given_for(shelf, command):
    """For each part behind the word of a command what it tells: a thing for its name, a NUMBER, or the part itself.

    NameTaken or LabelTaken of what is new, UnknownName and UnknownLabel of the rest, in the sequence of the parts.
    """
    given, ahead = [], None
    for kind, part in zip(wanted_kinds(command), command_parts(command)):
        given.append(_given(shelf, kind, part, ahead))
        ahead = part
    return given


def _given(shelf, kind, part, ahead):
    """What the part tells that stands where the kind is wanted; ahead is the part ahead of it."""
    match kind:
        case "new":
            if part in shelf.things:
                raise NameTaken(part)
            return part
        case "noted":
            if part in shelf.noted:
                raise LabelTaken(part)
            return part
        case "label":
            check_label(shelf, part)
            return part
        case "name":
            return thing_of(shelf, part, kind_of(shelf, part))
        case "other":
            return thing_of(shelf, part, kind_of(shelf, ahead))
        case "plane" | "line" | "curve" | "change":
            return thing_of(shelf, part, kind)
        case "number":
            return int(part)
        case _:
            return part


def shelf_after(shelf, command, given):
    """The shelf behind the deed."""
    word, parts = command_word(command), command_parts(command)
    match word:
        case "claim":
            # The words of a claim's names are wanted, not what is kept under them.
            return with_claim(shelf, parts[0], tuple(parts[1:]))
        case "forget":
            return without_claim(shelf, parts[0])
        case "drop":
            return without_thing(shelf, parts[0])
    args = given[1:] if DEEDS[word][0] == "new" else given
    kind = MADE.get(word, "plane")
    value = _plane_made(word, args) if kind == "plane" else _other_made(word, args)
    return with_thing(shelf, parts[0], kind, value)


def _plane_made(word, args):
    """The plane that a deed makes."""
    match word:
        case "plane":
            return _read("plane", args[0])
        case "sum":
            return plane_sum(*args)
        case "less":
            return plane_less(*args)
        case "times" | "mult":
            return plane_times(*args)
        case "common":
            return plane_common(*args)
        case "over":
            return plane_quotient(*args)
        case "plain":
            return plain_plane(*args)
        case "swap":
            return exchanged(*args)
        case "slope":
            return slope_x(*args)
        case "led" | "turn":
            return changed(*args)
        case _:
            return equation(*args)[0]


def _other_made(word, args):
    """The line, the curve or the change that a deed makes."""
    match word:
        case "line":
            return _read("line", args[0])
        case "row":
            return at_y(*args)
        case "parting":
            return own_line(args[0], parting_row(args[0]))
        case "drawn" | "lead":
            return by_time(*args)
        case "curve":
            lines = _read("curve", args[0])
            check_curve(lines)
            return lines
        case _:
            numbers = _read("change", args[0])
            check_change(numbers)
            return numbers


def _read(kind, text):
    """What a text of a command tells, whatever it is."""
    return told_by(kind, read(text, kind, NUMBER_FIGURES)[1])
