"""What a desk keeps under names and notes under labels at one time, and how the noted claims stand then."""

from curvepieces.claims import is_claim, is_true
from curvepieces.commands import CLAIMS
from curvepieces.errors import NotClean, TooMany, UnknownLabel, UnknownName
from curvepieces.kinds import copied

THINGS_MOST = 12
NOTED_MOST = 12
GONE = "gone"


class Shelf:
    """Things by their names, tuples of the kind and the value; claims by their labels, and the states of these.

    A claim is told by its words, as they stand behind the label. A shelf never changes: what comes of it is a new one.
    """

    def __init__(self, things, noted, states):
        self.things = things
        self.noted = noted
        self.states = states


def empty_shelf():
    """A shelf on which nothing is kept and noted."""
    return Shelf({}, {}, {})


def thing_of(shelf, name, kind):
    """What is kept under the name, new lists; UnknownName unless it is of the kind."""
    if name not in shelf.things or shelf.things[name][0] != kind:
        raise UnknownName(name)
    return copied(shelf.things[name][1])


def kind_of(shelf, name):
    """The kind of what is kept under the name, None if nothing is."""
    if name not in shelf.things:
        return None
    return shelf.things[name][0]


def check_label(shelf, label):
    """UnknownLabel unless a claim is noted under the label."""
    if label not in shelf.noted:
        raise UnknownLabel(label)


def with_thing(shelf, name, kind, value):
    """The shelf with the thing under the name, in the place of what was kept there."""
    if name not in shelf.things and len(shelf.things) >= THINGS_MOST:
        raise TooMany("names", THINGS_MOST)
    things = dict(shelf.things)
    things[name] = (kind, value)
    return _with_things(shelf, things, name)


def without_thing(shelf, name):
    """The shelf with nothing under the name."""
    things = dict(shelf.things)
    del things[name]
    return _with_things(shelf, things, name)


def _with_things(shelf, things, name):
    """The shelf with these things, of which only the one under the name is another one now."""
    states = dict(shelf.states)
    for label, told in shelf.noted.items():
        if name in told[1:]:
            states[label] = _state_of(things, told)
    return Shelf(things, shelf.noted, states)


def with_claim(shelf, label, told):
    """The shelf with the claim of these words under the label; what is_true raises, InvalidClaim among it."""
    state = _word_of(is_true(_claim_of(shelf.things, told)))
    if len(shelf.noted) >= NOTED_MOST:
        raise TooMany("labels", NOTED_MOST)
    noted, states = dict(shelf.noted), dict(shelf.states)
    noted[label] = told
    states[label] = state
    return Shelf(shelf.things, noted, states)


def without_claim(shelf, label):
    """The shelf with nothing noted under the label."""
    noted, states = dict(shelf.noted), dict(shelf.states)
    del noted[label]
    del states[label]
    return Shelf(shelf.things, noted, states)


def noted_claim(shelf, label):
    """The claim under the label as a tuple, new lists, with what is kept now; None while its state is gone."""
    if shelf.states[label] == GONE:
        return None
    return _claim_of(shelf.things, shelf.noted[label])


def _claim_of(things, told):
    """The tuple that a claim's words tell of the things, new lists; None if one of these is missing."""
    parts = []
    for kind, part in zip(CLAIMS[told[0]], told[1:]):
        if kind == "count":
            parts.append(int(part))
        elif part in things and things[part][0] == kind:
            parts.append(copied(things[part][1]))
        else:
            return None
    if len(parts) == 3:
        # A form is told by two of the words.
        return told[0], parts[0], (parts[1], parts[2])
    return (told[0],) + tuple(parts)


def _state_of(things, told):
    """The state of the claim of these words."""
    claim = _claim_of(things, told)
    if not is_claim(claim):
        return GONE
    try:
        return _word_of(is_true(claim))
    except (NotClean, TooMany):
        return GONE


def _word_of(holds):
    """The state of a claim that holds, or does not."""
    return "true" if holds else "false"


def changed_states(before, after):
    """The states of the second shelf that are other ones than the first one's, told; - if there are none."""
    return states_told({label: state for label, state in after.states.items()
                        if label not in before.states or before.states[label] != state})


def states_told(states):
    """Labels with their states, sorted, told; - if there are none."""
    if len(states) == 0:
        return "-"
    return ", ".join([f"{label} {states[label]}" for label in sorted(states)])
