"""Commands of a desk: their words, and what may stand behind each of them."""

from curvepieces.reading import DIGITS, read

# What stands behind the word of a deed. "new" is a name that is not kept yet, "noted" a label of a claim that is new.
DEEDS = {
    "plane": ("new", "plane text"), "line": ("new", "line text"), "curve": ("new", "curve text"),
    "change": ("new", "change text"), "sum": ("new", "plane", "plane"), "less": ("new", "plane", "plane"),
    "times": ("new", "plane", "plane"), "common": ("new", "plane", "plane"), "over": ("new", "plane", "plane"),
    "plain": ("new", "plane"), "swap": ("new", "plane"), "slope": ("new", "plane"), "led": ("new", "plane", "change"),
    "row": ("new", "plane", "number"), "parting": ("new", "plane"), "drawn": ("new", "curve", "line"),
    "equation": ("new", "curve"), "turn": ("plane", "change"), "mult": ("plane", "plane"), "lead": ("curve", "line"),
    "drop": ("name",), "forget": ("label",),
}

# What stands behind the word of a claim.
CLAIMS = {
    "pieces": ("plane", "count"), "otherwise": ("plane", "count"), "clean": ("plane",), "double": ("plane",),
    "within": ("plane", "plane"), "outside": ("plane", "plane"), "whole": ("plane",), "splits": ("plane",),
    "degrees": ("curve", "count"), "unlike": ("curve", "count"), "along": ("curve", "plane", "count"),
    "aside": ("curve", "plane", "count"),
}

# What stands behind the other words. "other" is a name of the kind of what is ahead of it.
OTHERS = {
    "undo": (), "redo": (), "state": ("label",), "states": (), "claimed": ("label",), "names": (), "show": ("name",),
    "pieces": ("plane",), "bound": ("plane",), "count": ("plane", "number"), "value": ("plane", "number", "number"),
    "parts": ("plane",), "clean": ("plane",), "whole": ("plane",), "good": ("plane", "number"),
    "at": ("curve", "number"), "lesser": ("curve",), "passes": ("curve",), "same": ("name", "other"),
}

SMALL = "abcdefghijklmnopqrstuvwxyz"
NAME_MOST = 8
TEXT_MOST = 80
NUMBER_FIGURES = 6
COUNT_FIGURES = 2


def is_name(value):
    """Whether any value is a name, or a label."""
    if not isinstance(value, str) or len(value) < 1 or len(value) > NAME_MOST or value[0] not in SMALL:
        return False
    return all([mark in SMALL or mark in DIGITS for mark in value])


def is_command(value):
    """Whether any value is a command by its words alone."""
    if not isinstance(value, str):
        return False
    kinds, parts = wanted_kinds(value), command_parts(value)
    if kinds is None or len(kinds) != len(parts):
        return False
    return all([_is_part(kind, part) for kind, part in zip(kinds, parts)])


def is_deed(value):
    """Whether any value is a deed by its words alone."""
    return is_command(value) and (command_word(value) in DEEDS or command_word(value) == "claim")


def command_word(command):
    """What stands ahead of the first blank."""
    return command.split(" ")[0]


def command_parts(command):
    """What stands behind the word of a command, a list."""
    return command.split(" ")[1:]


def wanted_kinds(command):
    """What the tables want of the parts behind the word of a string, a tuple; None if no table has the word."""
    word, parts = command_word(command), command_parts(command)
    if word == "claim":
        if len(parts) < 2 or parts[1] not in CLAIMS:
            return None
        return ("noted", "word") + CLAIMS[parts[1]]
    if word in DEEDS:
        return DEEDS[word]
    return OTHERS.get(word)


def _is_part(kind, part):
    """Whether a string without blanks can stand where the kind is wanted, whatever is kept."""
    match kind:
        case "word":
            return part in CLAIMS
        case "count":
            return _is_numeral(part, COUNT_FIGURES)
        case "number":
            return _is_numeral(part, NUMBER_FIGURES) or (part[:1] == "-" and part != "-0" and
                                                         _is_numeral(part[1:], NUMBER_FIGURES))
        case "plane text" | "line text" | "curve text" | "change text":
            return len(part) <= TEXT_MOST and read(part, text_kind(kind), NUMBER_FIGURES)[0] is None
        case _:
            return is_name(part)


def _is_numeral(part, most):
    """Whether a string is a COUNT of at most so many figures, that begins with 0 only if it is 0."""
    if len(part) < 1 or len(part) > most or not all([mark in DIGITS for mark in part]):
        return False
    return part[0] != "0" or part == "0"


def text_kind(kind):
    """Of which kind of things a text is told: the kind's first word."""
    return kind.split(" ")[0]
