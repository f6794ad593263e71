"""What the tests of the desk need: desks behind commands, all that can be seen of one, commands that fail."""

import unittest

from curvepieces.desk import Desk
from curvepieces.errors import CommandFailed, NothingToRedo
from tests.support import exactly, refused

TWIN = [[0, 0, -2], [], [1]]

# A deed of each word.
DEEDS = ["plane p xx-2yy", "line l tt+1", "curve c tt:t:1", "change v x+y:y", "plane q x-y", "sum a p q", "less b p q",
         "times d p q", "drop a", "drop b", "common a d q", "over b d q", "plain e d", "drop e", "swap e d",
         "claim k pieces d 3", "slope f d", "claim m along c p 2", "drop f", "led f p v", "row g d 2", "drop g",
         "parting g p", "claim n within d q", "drop g", "drawn g c l", "drop g", "equation g c", "turn d v", "mult q q",
         "lead c l", "forget k", "claim k splits p", "drop q"]


def desk_of(*commands):
    """A desk that has done these commands."""
    desk = Desk()
    desk.do_all(*commands)
    return desk


def all_of(desk):
    """All that can be seen of a desk; last what redo would answer, as often as it can."""
    return (desk.names, desk.labels, len(desk), desk.lines(), desk("names"), desk("states"),
            {name: (desk("show " + name), exactly(desk[name])) for name in desk.names},
            {label: (desk("claimed " + label), exactly(desk.claim_of(label))) for label in desk.labels},
            {label: desk.fits(label) for label in desk.labels}, redone(desk))


def redone(desk):
    """What redo would answer, as often as it can."""
    other, found = desk.copy(), []
    while True:
        try:
            found.append(other.do("redo"))
        except NothingToRedo:
            return found


class Case(unittest.TestCase):

    def answers(self, desk, *pairs):
        """The commands at even places have the answers behind them."""
        for command, answer in zip(pairs[::2], pairs[1::2]):
            self.assertEqual(exactly(desk.do(command)), exactly(answer), command)

    def fails(self, desk, command, error, **attributes):
        """The command raises the error with these attributes, by each way to do it, and nothing is changed."""
        before = all_of(desk)
        raised = [refused(self, error, desk.do, command), refused(self, error, desk.do, command=command),
                  refused(self, error, desk, command)]
        for at, commands in ((1, ("names", command)), (0, (command, "names"))):
            for function in (desk.do_all, desk.attempt):
                outer = refused(self, CommandFailed, function, *commands)
                self.assertEqual(exactly(outer.position), exactly(at))
                raised.append(outer.__cause__)
        for found in raised:
            self.assertIs(found.__class__, error, command)
            for name, value in attributes.items():
                self.assertEqual(exactly(getattr(found, name)), exactly(value), command)
        self.assertEqual(all_of(desk), before, command)
