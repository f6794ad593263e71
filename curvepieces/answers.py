"""The answers to commands that are no deeds."""

from curvepieces.commands import command_parts, command_word
from curvepieces.curves import point_at
from curvepieces.equations import drawn
from curvepieces.followers import follower_degrees
from curvepieces.fracparts import fraction_parts, is_whole
from curvepieces.guards import is_good, prime_bound
from curvepieces.planeparts import is_clean
from curvepieces.planes import plane_value
from curvepieces.residues import count_modulo
from curvepieces.shelves import kind_of, states_told
from curvepieces.slopes import piece_count
from curvepieces.texts import change_text, curve_text, line_text, plane_text


def answer_of(shelf, command, given):
    """The answer to a command that is no deed, and neither undo nor redo."""
    word, parts = command_word(command), command_parts(command)
    match word:
        case "state":
            return shelf.states[parts[0]]
        case "states":
            return states_told(shelf.states)
        case "claimed":
            return " ".join(shelf.noted[parts[0]])
        case "names":
            return " ".join(sorted(list(shelf.things))) if len(shelf.things) > 0 else "-"
        case "show":
            return _written(kind_of(shelf, parts[0]), given[0])
        case "clean" | "whole" | "good" | "same":
            return "yes" if _is_so(word, given) else "no"
        case "parts":
            return ",".join([str(many) for _, many in fraction_parts(given[0])])
        case "at":
            return ",".join([str(number) for number in point_at(*given)])
        case _:
            return str(_number_told(word, given))


def _written(kind, value):
    """What is kept, written."""
    match kind:
        case "plane":
            return plane_text(value)
        case "line":
            return line_text(value)
        case "curve":
            return curve_text(value)
        case _:
            return change_text(value)


def _is_so(word, given):
    """Whether it is so what the word asks."""
    match word:
        case "clean":
            return is_clean(*given)
        case "whole":
            return is_whole(*given)
        case "good":
            return is_good(*given)
        case _:
            return given[0] == given[1]


def _number_told(word, given):
    """The INTEGER for which the word asks."""
    match word:
        case "pieces":
            return piece_count(*given)
        case "bound":
            return prime_bound(*given)
        case "count":
            return count_modulo(*given)
        case "value":
            return plane_value(*given)
        case "lesser":
            return follower_degrees(*given)[0]
        case _:
            return drawn(*given)
