"""Lines, planes, curves and changes, read from texts."""

from curvepieces.curves import is_curve
from curvepieces.errors import InvalidText
from curvepieces.letters import is_change
from curvepieces.reading import FIGURES_MOST, read, told_by


def line_of(text):
    """The line that the text tells."""
    return _told(text, "line")


def plane_of(text):
    """The plane that the text tells."""
    return _told(text, "plane")


def curve_of(text):
    """The curve that the text tells."""
    lines = _told(text, "curve")
    if not is_curve(lines):
        raise InvalidText(None)
    return lines


def change_of(text):
    """The change that the text tells."""
    numbers = _told(text, "change")
    if not is_change(numbers):
        raise InvalidText(None)
    return numbers


def _told(text, kind):
    """What the text tells; InvalidText unless it is a readable string."""
    if not isinstance(text, str):
        raise InvalidText(None)
    position, terms = read(text, kind, FIGURES_MOST)
    if position is not None:
        raise InvalidText(position)
    return told_by(kind, terms)
