"""Texts of lines, planes, curves and changes, read one character after the other; what they tell is not checked."""

from curvepieces.grids import grid_trimmed
from curvepieces.lines import LINE_DEGREE
from curvepieces.planes import PLANE_DEGREE
from curvepieces.polys import trimmed

# The letters, how often each may stand in a term, how many may stand in a term, how many parts the text has.
SHAPES = {"line": ("t", 12, 12, 1), "plane": ("xy", 8, 16, 1), "curve": ("t", 5, 5, 3), "change": ("xy", 1, 1, 2)}
FIGURES_MOST = 40
DIGITS = "0123456789"

# Where in a part the reading stands: ahead of all but blanks, behind a sign, in a numeral, behind it, behind letters.
AHEAD = 0
SIGNED = 1
NUMERAL = 2
BEHIND = 3
LETTERED = 4


class Reading:
    """A text as far as it is read; whatever was taken can be led on to a readable text."""

    def __init__(self, kind, figures_most):
        self.letters, self.each, self.every, self.sections = SHAPES[kind]
        self.figures_most = figures_most
        self.place, self.section, self.terms = AHEAD, 0, []
        self.begin(1)

    def begin(self, sign):
        """A new term begins."""
        self.sign, self.figures, self.word = sign, "", ""

    def finish(self):
        """The term is at its end: its section, its number, its letters."""
        number = int(self.figures) if self.figures != "" else 1
        self.terms.append((self.section, self.sign * number, self.word))

    def in_term(self):
        """Whether a term could be at its end here."""
        return self.place in (NUMERAL, BEHIND, LETTERED)

    def ended(self):
        """Whether what was taken is readable, not only a beginning."""
        return self.in_term() and self.section == self.sections - 1

    def take(self, mark):
        """Whether what was taken and the character can be led on to a readable text; if so, it is taken."""
        if mark == " ":
            if self.place == NUMERAL:
                self.place = BEHIND
            return True
        if mark in DIGITS:
            return self.take_figure(mark)
        if mark in self.letters:
            return self.take_letter(mark)
        if mark in "+-":
            return self.take_sign(mark)
        return mark == ":" and self.take_colon()

    def take_figure(self, mark):
        """As take, of a figure."""
        if self.place in (BEHIND, LETTERED) or self.figures == "0" or len(self.figures) == self.figures_most:
            return False
        self.figures, self.place = self.figures + mark, NUMERAL
        return True

    def take_letter(self, mark):
        """As take, of one of the letters."""
        if self.word.count(mark) == self.each or len(self.word) == self.every:
            return False
        self.word, self.place = self.word + mark, LETTERED
        return True

    def take_sign(self, mark):
        """As take, of a sign."""
        if self.place == SIGNED:
            return False
        if self.in_term():
            self.finish()
        self.begin(-1 if mark == "-" else 1)
        self.place = SIGNED
        return True

    def take_colon(self):
        """As take, of a colon."""
        if not self.in_term() or self.section == self.sections - 1:
            return False
        self.finish()
        self.begin(1)
        self.section, self.place = self.section + 1, AHEAD
        return True


def read(text, kind, figures_most):
    """(position, terms): the wrong position of a string and [], or None and the terms of a readable one."""
    reading = Reading(kind, figures_most)
    for at, mark in enumerate(text):
        if not reading.take(mark):
            return at, []
    if not reading.ended():
        return len(text), []
    reading.finish()
    return None, reading.terms


def told_by(kind, terms):
    """The numbers that terms of the kind tell: a line, a plane; three lines or six numbers, whatever they are."""
    if kind == "line":
        return _line_told(terms, 0)
    if kind == "plane":
        return _plane_told(terms)
    if kind == "curve":
        return [_line_told(terms, at) for at in range(3)]
    return _change_told(terms)


def _line_told(terms, wanted):
    """The sum of the terms of the wanted section, a line."""
    numbers = [0] * (LINE_DEGREE + 1)
    for section, number, word in terms:
        if section == wanted:
            numbers[len(word)] += number
    return trimmed(numbers)


def _plane_told(terms):
    """The sum of all terms, a plane."""
    rows = [[0] * (PLANE_DEGREE + 1) for _ in range(PLANE_DEGREE + 1)]
    for _, number, word in terms:
        rows[word.count("x")][word.count("y")] += number
    return grid_trimmed(rows)


def _change_told(terms):
    """The six numbers of a change: for each of both sections those of x, of y, and the free one."""
    numbers = [0] * 6
    for section, number, word in terms:
        numbers[3 * section + ("x", "y", "").index(word)] += number
    return numbers
