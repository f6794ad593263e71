"""A desk once more, as plainly as can be: all is done anew from the lines of the deeds, nothing is kept but these."""

from curvepieces import errors
from curvepieces.claims import contrary, is_claim, is_paper_of, is_true
from curvepieces.commands import is_command
from curvepieces.curves import by_time, is_curve, point_at
from curvepieces.equations import drawn, equation
from curvepieces.followers import follower_degrees
from curvepieces.fracparts import fraction_parts, is_whole
from curvepieces.guards import is_good, prime_bound
from curvepieces.letters import changed, exchanged, is_change
from curvepieces.planeparts import is_clean, plane_common, plane_quotient
from curvepieces.planes import (at_y, plain_plane, plane_less, plane_sum, plane_times, plane_value, slope_x)
from curvepieces.products import own_line, parting_row
from curvepieces.readers import line_of, plane_of
from curvepieces.residues import count_modulo
from curvepieces.slopes import piece_count
from curvepieces.texts import change_text, curve_text, line_text, plane_text
from tests.test_readers import change_of, curve_of, told

# Of the deeds that make something under a new name: of which kind, of which kinds, by which function.
MAKERS = {"sum": ("plane", ["plane", "plane"], plane_sum), "less": ("plane", ["plane", "plane"], plane_less),
          "times": ("plane", ["plane", "plane"], plane_times), "common": ("plane", ["plane", "plane"], plane_common),
          "over": ("plane", ["plane", "plane"], plane_quotient), "plain": ("plane", ["plane"], plain_plane),
          "swap": ("plane", ["plane"], exchanged), "slope": ("plane", ["plane"], slope_x),
          "led": ("plane", ["plane", "change"], changed), "row": ("line", ["plane", "number"], at_y),
          "parting": ("line", ["plane"], lambda plane: own_line(plane, parting_row(plane))),
          "drawn": ("curve", ["curve", "line"], by_time),
          "equation": ("plane", ["curve"], lambda curve: equation(curve)[0])}

# Those that make something anew under its name.
TURNERS = {"turn": ("plane", "change", changed), "mult": ("plane", "plane", plane_times),
           "lead": ("curve", "line", by_time)}

CLAIMS = {"pieces": ["plane", "count"], "otherwise": ["plane", "count"], "clean": ["plane"], "double": ["plane"],
          "within": ["plane", "plane"], "outside": ["plane", "plane"], "whole": ["plane"], "splits": ["plane"],
          "degrees": ["curve", "count"], "unlike": ["curve", "count"], "along": ["curve", "plane", "count"],
          "aside": ["curve", "plane", "count"]}


def said(flag):
    return "yes" if flag else "no"


# The other commands with names: the kinds, and what is told.
TELLERS = {"pieces": (["plane"], lambda plane: str(piece_count(plane))),
           "bound": (["plane"], lambda plane: str(prime_bound(plane))),
           "count": (["plane", "number"], lambda plane, prime: str(count_modulo(plane, prime))),
           "value": (["plane", "number", "number"], lambda plane, x, y: str(plane_value(plane, x, y))),
           "parts": (["plane"], lambda plane: ",".join(str(many) for _, many in fraction_parts(plane))),
           "clean": (["plane"], lambda plane: said(is_clean(plane))),
           "whole": (["plane"], lambda plane: said(is_whole(plane))),
           "good": (["plane", "number"], lambda plane, prime: said(is_good(plane, prime))),
           "at": (["curve", "number"], lambda curve, time: ",".join(str(number) for number in point_at(curve, time))),
           "lesser": (["curve"], lambda curve: str(follower_degrees(curve)[0])),
           "passes": (["curve"], lambda curve: str(drawn(curve)))}

TEXTS = {"plane": plane_text, "line": line_text, "curve": curve_text, "change": change_text}


class Model:

    def __init__(self, deeds=(), undone=(), papers=()):
        self.deeds, self.undone, self.papers = list(deeds), list(undone), dict(papers)
        self.things, self.noted = {}, {}
        for line in self.deeds:
            self.run_deed(line.split(" "))

    def copy(self):
        return Model(self.deeds, self.undone, self.papers)

    def take(self, name, kind):
        if name not in self.things or self.things[name][0] != kind:
            raise errors.UnknownName(name)
        return self.things[name][1]

    def take_all(self, kinds, parts):
        return [int(part) if kind in ("number", "count") else self.take(part, kind) for kind, part in zip(kinds, parts)]

    def fresh(self, name):
        if name in self.things:
            raise errors.NameTaken(name)

    def put(self, name, kind, value):
        if name not in self.things and len(self.things) == 12:
            raise errors.TooMany("names", 12)
        self.things[name] = (kind, value)

    def claim_of_words(self, spoken):
        """The tuple of a claim's words, None if something is not there."""
        kinds = CLAIMS[spoken[0]]
        try:
            parts = self.take_all(kinds, spoken[1:])
        except errors.UnknownName:
            return None
        return (spoken[0], parts[0], tuple(parts[1:])) if len(kinds) == 3 else (spoken[0], *parts)

    def state(self, label):
        claim = self.claim_of_words(self.noted[label])
        if claim is None or not is_claim(claim):
            return "gone"
        try:
            return "true" if is_true(claim) else "false"
        except (errors.NotClean, errors.TooMany):
            return "gone"

    def states(self):
        return {label: self.state(label) for label in self.noted}

    def run_deed(self, parts):
        """The deed changes things and what is noted, or raises."""
        word = parts[0]
        if word in ("plane", "line", "curve", "change"):
            self.fresh(parts[1])
            self.put(parts[1], word, self.read(word, parts[2]))
        elif word in MAKERS:
            kind, kinds, function = MAKERS[word]
            self.fresh(parts[1])
            self.put(parts[1], kind, function(*self.take_all(kinds, parts[2:])))
        elif word in TURNERS:
            kind, other, function = TURNERS[word]
            self.put(parts[1], kind, function(*self.take_all([kind, other], parts[1:])))
        elif word == "drop":
            if parts[1] not in self.things:
                raise errors.UnknownName(parts[1])
            del self.things[parts[1]]
        elif word == "forget":
            if parts[1] not in self.noted:
                raise errors.UnknownLabel(parts[1])
            del self.noted[parts[1]]
        else:
            self.note(parts[1], parts[2:])

    def read(self, word, text):
        if word == "plane":
            return plane_of(text)
        if word == "line":
            return line_of(text)
        if word == "curve":
            lines = told(curve_of, text)
            if not is_curve(lines):
                raise errors.InvalidCurve(lines)
            return lines
        numbers = told(change_of, text)
        if not is_change(numbers):
            raise errors.InvalidChange(numbers)
        return numbers

    def note(self, label, spoken):
        if label in self.noted:
            raise errors.LabelTaken(label)
        self.take_all(CLAIMS[spoken[0]], spoken[1:])
        claim = self.claim_of_words(spoken)
        if not is_claim(claim):
            raise errors.InvalidClaim(claim)
        is_true(claim)
        if len(self.noted) == 12:
            raise errors.TooMany("labels", 12)
        self.noted[label] = spoken

    def do(self, command):
        """The answer; the model is changed only if nothing is raised."""
        if not is_command(command):
            raise errors.InvalidCommand(command)
        parts = command.split(" ")
        if parts[0] == "undo":
            if not self.deeds:
                raise errors.NothingToUndo()
            self.become(Model(self.deeds[:-1], self.undone + [self.deeds[-1]], self.papers))
            return self.undone[-1]
        if parts[0] == "redo":
            if not self.undone:
                raise errors.NothingToRedo()
            self.become(Model(self.deeds + [self.undone[-1]], self.undone[:-1], self.papers))
            return self.deeds[-1]
        if parts[0] in ("plane", "line", "curve", "change", "claim", "forget", "drop") or parts[0] in MAKERS or \
                parts[0] in TURNERS:
            after = self.copy()
            after.run_deed(parts)
            if len(self.deeds) == 300:
                raise errors.TooMany("deeds", 300)
            before = self.states()
            self.become(Model(self.deeds + [command], [], self.papers))
            return self.told({label: state for label, state in self.states().items() if before.get(label) != state})
        return self.answer(parts)

    def become(self, other):
        self.__dict__.update(other.__dict__)

    def told(self, states):
        return ", ".join(f"{label} {state}" for label, state in sorted(states.items())) or "-"

    def answer(self, parts):
        word = parts[0]
        if word in ("state", "claimed"):
            if parts[1] not in self.noted:
                raise errors.UnknownLabel(parts[1])
            return self.state(parts[1]) if word == "state" else " ".join(self.noted[parts[1]])
        if word == "states":
            return self.told(self.states())
        if word == "names":
            return " ".join(sorted(self.things)) or "-"
        if word in ("show", "same"):
            if parts[1] not in self.things:
                raise errors.UnknownName(parts[1])
            kind, value = self.things[parts[1]]
            return TEXTS[kind](value) if word == "show" else said(value == self.take(parts[2], kind))
        kinds, function = TELLERS[word]
        return function(*self.take_all(kinds, parts[1:]))

    def attach(self, label, paper):
        claim = self.claim_of(label)
        if claim is None:
            raise errors.InvalidPaper(paper)
        if is_paper_of(claim, paper):
            self.papers[label] = (self.noted[label], True, paper)
        elif is_paper_of(contrary(claim), paper):
            self.papers[label] = (self.noted[label], False, paper)
        else:
            raise errors.InvalidPaper(paper)

    def claim_of(self, label):
        if label not in self.noted:
            raise errors.UnknownLabel(label)
        return None if self.state(label) == "gone" else self.claim_of_words(self.noted[label])

    def fits(self, label):
        claim = self.claim_of(label)
        if claim is None or label not in self.papers or self.papers[label][0] != self.noted[label]:
            return False
        _, own, paper = self.papers[label]
        return is_paper_of(claim if own else contrary(claim), paper)
