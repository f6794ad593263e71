"""What fails on a desk: which error comes first, and that nothing is changed."""

import unittest

from curvepieces import errors
from curvepieces.claims import is_claim
from curvepieces.desk import Desk
from curvepieces.errors import (BadPrime, CommandFailed, InvalidChange, InvalidClaim, InvalidCommand, InvalidCurve,
                                InvalidLine,
                                InvalidPrime, LabelTaken, NameTaken, NoPart, NotClean, UnknownLabel, UnknownName,
                                ZeroPlane)
from tests.desksupport import TWIN, Case, all_of, desk_of
from tests.support import NOT_INTEGERS, refused, refused_value


class DeedErrorsTest(Case):

    def setUp(self):
        self.desk = desk_of("plane p xx-2yy", "plane q x-y", "line l tt", "line low 3", "curve c tt:t:1",
                            "change v x+y:y",
                            "plane zero 0", "plane free y", "claim k pieces p 2", "plane big " + "x" * 5 + "+y",
                            "plane dbl xx")

    def test_what_is_no_command(self):
        wrong = [value for value in NOT_INTEGERS if not isinstance(value, str)]
        wrong += ["", " ", "undo ", " undo", "plane", "plane p", "plane p xx - 2yy", "plane P x", "plane n t",
                  "names p", "nameless",
                  "claim k", "claim k pieces", "claim n pieces p 100", "claim n pieces p 02", "claim n clean p 1",
                  "show", "state",
                  "value p 1", "value p 1 02", "value p -0 1", "row n p 1000000", "sum n p", "sum n p q q",
                  "sum  n p q", "UNDO",
                  ["undo"], ("undo",), b"undo", "plane abcdefghi x", "plane n 1000000", "show p\n"]
        before = all_of(self.desk)
        for value in wrong:
            for function in (self.desk.do, self.desk):
                refused_value(self, InvalidCommand, value, function, value)
            refused_value(self, InvalidCommand, value, self.desk.do, command=value)
            outer = refused(self, CommandFailed, self.desk.do_all, "undo", value)
            self.assertEqual(outer.position, 1)
            self.assertIs(outer.__cause__.value, value)
        self.assertEqual(all_of(self.desk), before)

    def test_names_that_are_taken(self):
        for name in ("p", "l", "c", "v", "zero"):
            for behind in ("plane {} x", "line {} t", "curve {} t:1:0", "curve {} 1:1:1", "change {} x:y",
                           "change {} x:x",
                           "sum {} p q", "sum {} no none", "less {} p l", "times {} big big", "common {} p q",
                           "over {} p zero",
                           "plain {} p", "swap {} no", "slope {} p", "led {} p v", "row {} p 1", "row {} no 1",
                           "parting {} free",
                           "drawn {} c low", "drawn {} no l", "equation {} p"):
                self.fails(self.desk, behind.format(name), NameTaken, name=name)
        # A label is no name.
        self.answers(self.desk, "plane k x", "-", "show k", "x", "state k", "true")

    def test_names_of_nothing_and_of_another_kind(self):
        for command, name in (("sum n no q", "no"), ("sum n p no", "no"), ("sum n no none", "no"), ("sum n p l", "l"),
                              ("sum n c l", "c"),
                              ("less n v p", "v"), ("times n p k", "k"), ("common n low p", "low"), ("over n p c", "c"),
                              ("plain n l", "l"), ("swap n c", "c"), ("slope n v", "v"), ("led n p q", "q"),
                              ("led n v v", "v"),
                              ("led n l no", "l"), ("row n c 1", "c"), ("row n n 1", "n"), ("parting n no", "no"),
                              ("drawn n p l", "p"),
                              ("drawn n c p", "p"), ("equation n p", "p"), ("equation n l", "l"), ("turn n v", "n"),
                              ("turn p p", "p"),
                              ("turn c v", "c"), ("mult p c", "c"), ("mult no none", "no"), ("mult l p", "l"),
                              ("lead p l", "p"),
                              ("lead c c", "c"), ("lead c v", "v"), ("drop no", "no"), ("drop k", "k"),
                              ("claim n pieces no 2", "no"),
                              ("claim n pieces l 2", "l"), ("claim n within p c", "c"),
                              ("claim n outside no none", "no"),
                              ("claim n clean v", "v"), ("claim n degrees p 1", "p"), ("claim n along c c 2", "c"),
                              ("claim n aside p p 2", "p"), ("claim n along c no 99", "no"), ("show no", "no"),
                              ("pieces l", "l"),
                              ("bound c", "c"), ("count v 7", "v"), ("value l 1 1", "l"), ("parts c", "c"),
                              ("clean l", "l"),
                              ("whole no", "no"), ("good c 7", "c"), ("at p 1", "p"), ("lesser l", "l"),
                              ("passes p", "p"),
                              ("same no p", "no"), ("same no none", "no"), ("same p no", "no"), ("same p l", "l"),
                              ("same l p", "p"),
                              ("same c v", "v"), ("same v c", "c"), ("same k p", "k")):
            self.fails(self.desk, command, UnknownName, value=name)

    def test_labels(self):
        for command in ("claim k pieces p 2", "claim k clean no", "claim k pieces free 9", "claim k whole zero"):
            self.fails(self.desk, command, LabelTaken, label="k")
        for command in ("state no", "claimed p", "forget q", "forget no"):
            self.fails(self.desk, command, UnknownLabel, value=command.split(" ")[1])

    def test_curves_and_changes_that_are_none(self):
        for text, lines in (("t:t:t", [[0, 1]] * 3), ("1:2:3", [[1], [2], [3]]), ("0:0:t", [[], [], [0, 1]]),
                            ("t-t:2t:0t", [[], [0, 2], []])):
            self.fails(self.desk, "curve n " + text, InvalidCurve, value=lines)
        for text, numbers in (("x:x", [1, 0, 0, 1, 0, 0]), ("1:y", [0, 0, 1, 0, 1, 0]),
                              ("x+2y-1:2x+4y", [1, 2, -1, 2, 4, 0])):
            self.fails(self.desk, "change n " + text, InvalidChange, value=numbers)

    def test_errors_of_the_functions(self):
        desk = self.desk
        desk.do("curve five ttttt:1:0")
        for command, error in (("over n p zero", ZeroPlane), ("over n zero p", ZeroPlane), ("over n p q", NoPart),
                               ("parting n free", NotClean),
                               ("parting n dbl", NotClean), ("pieces dbl", NotClean), ("bound zero", NotClean),
                               ("parts free", NotClean),
                               ("whole zero", NotClean), ("good dbl 7", NotClean), ("count p 3", BadPrime),
                               ("count dbl 7", BadPrime),
                               ("count p 2", BadPrime)):
            self.fails(desk, command, error)
        for command, value in (("count p 4", 4), ("count p -7", -7), ("count p 10007", 10007), ("good p 0", 0),
                               ("good dbl 9", 9)):
            self.fails(desk, command, InvalidPrime, value=value)
        self.fails(desk, "drawn n c low", InvalidLine, value=[3])
        self.fails(desk, "lead c low", InvalidLine, value=[3])
        for command, what, limit in (("times n big big", "degree", 8), ("mult big big", "degree", 8),
                                     ("lead five l", "degree", 5),
                                     ("drawn n five l", "degree", 5), ("pieces big", "degree", 4),
                                     ("parts big", "degree", 4),
                                     ("whole big", "degree", 4), ("parting n big", "degree", 4),
                                     ("good big 7", "degree", 4),
                                     ("bound big", "degree", 4), ("count big 11", "degree", 4)):
            self.fails(desk, command, errors.TooMany, what=what, limit=limit)

    def test_claims_that_are_none_and_claims_that_are_refused(self):
        desk = self.desk
        for command, claim in (("claim n pieces p 9", ("pieces", TWIN, 9)),
                               ("claim n otherwise zero 99", ("otherwise", [], 99)),
                               ("claim n clean free", ("clean", [[0, 1]])), ("claim n double zero", ("double", [])),
                               ("claim n within p zero", ("within", TWIN, [])),
                               ("claim n outside zero p", ("outside", [], TWIN)),
                               ("claim n whole zero", ("whole", [])), ("claim n splits zero", ("splits", [])),
                               ("claim n degrees c 6", ("degrees", [[0, 0, 1], [0, 1], [1]], 6)),
                               ("claim n along c p 1", ("along", [[0, 0, 1], [0, 1], [1]], (TWIN, 1))),
                               ("claim n aside c p 9", ("aside", [[0, 0, 1], [0, 1], [1]], (TWIN, 9))),
                               ("claim n along c zero 1", ("along", [[0, 0, 1], [0, 1], [1]], ([], 1)))):
            self.assertIs(is_claim(claim), False)
            self.fails(desk, command, InvalidClaim, value=claim)
        for command in ("claim n pieces free 1", "claim n otherwise zero 1", "claim n whole free", "claim n splits dbl",
                        "claim n pieces dbl 1"):
            self.fails(desk, command, NotClean)
        for command in ("claim n pieces big 1", "claim n otherwise big 8", "claim n whole big", "claim n splits big"):
            self.fails(desk, command, errors.TooMany, what="degree", limit=4)

    def test_twelve_names_and_one_more(self):
        desk = desk_of(*[f"plane p{at} x-{at}" for at in range(12)], "claim k clean p0")
        self.assertEqual(len(desk.names), 12)
        for command in ("plane n x", "line n t", "curve n t:1:0", "change n x:y", "sum n p0 p1", "row n p0 1",
                        "plain n p3", "parting n p0"):
            self.fails(desk, command, errors.TooMany, what="names", limit=12)
        # What is wrong otherwise is told ahead.
        self.fails(desk, "plane p3 x", NameTaken, name="p3")
        self.fails(desk, "sum n p0 no", UnknownName, value="no")
        self.fails(desk, "curve n t:t:t", InvalidCurve, value=[[0, 1]] * 3)
        self.fails(desk, "over n p0 p1", NoPart)
        self.answers(desk, "mult p0 p1", "-", "drop p5", "-", "line n t", "-", "drop n", "-", "undo", "drop n")
        self.fails(desk, "plane p5 x", errors.TooMany, what="names", limit=12)

    def test_twelve_labels_and_one_more(self):
        desk = desk_of("plane p x", "plane free y", *[f"claim k{at} pieces p {at % 9}" for at in range(12)])
        self.assertEqual(len(desk.labels), 12)
        self.fails(desk, "claim n pieces p 1", errors.TooMany, what="labels", limit=12)
        self.fails(desk, "claim k3 pieces p 1", LabelTaken, label="k3")
        self.fails(desk, "claim n pieces no 1", UnknownName, value="no")
        self.fails(desk, "claim n pieces p 9", InvalidClaim, value=("pieces", [[], [1]], 9))
        self.fails(desk, "claim n pieces free 1", NotClean)
        self.answers(desk, "forget k3", "-", "claim n whole p", "n true")
        self.fails(desk, "claim k3 pieces p 1", errors.TooMany, what="labels", limit=12)

    def test_300_deeds_and_one_more(self):
        desk = desk_of(*["plane p x", "drop p"] * 75)
        self.assertEqual(len(desk), 150)
        desk.do_all(*["plane p x", "drop p"] * 74, "plane p x", "claim k clean p")
        self.assertEqual((len(desk), len(desk.lines())), (300, 300))
        for command in ("plane n x", "drop p", "forget k", "claim n clean p", "mult p p"):
            self.fails(desk, command, errors.TooMany, what="deeds", limit=300)
        self.fails(desk, "plane p x", NameTaken, name="p")
        self.fails(desk, "drop n", UnknownName, value="n")
        self.fails(desk, "claim n pieces p 9", InvalidClaim, value=("pieces", [[], [1]], 9))
        self.answers(desk, "names", "p", "states", "k true", "undo", "claim k clean p", "undo", "plane p x", "redo",
                     "plane p x",
                     "redo", "claim k clean p")
        self.fails(desk, "drop p", errors.TooMany, what="deeds", limit=300)
        self.answers(desk, "undo", "claim k clean p", "drop p", "-")
        self.fails(desk, "plane p x", errors.TooMany, what="deeds", limit=300)
        # Names and labels come ahead of deeds.
        many = [f"plane p{at} x" for at in range(12)] + [f"claim k{at} clean p0" for at in range(12)]
        desk = desk_of(*many, *["mult p1 p2", "undo"] * 60, *["drop p3", "plane p3 x"] * 30)
        desk.do_all(*["drop p3", "plane p3 x"] * 108)
        self.assertEqual(len(desk), 300)
        self.fails(desk, "plane n x", errors.TooMany, what="names", limit=12)
        self.fails(desk, "claim n clean p0", errors.TooMany, what="labels", limit=12)
        self.fails(desk, "mult p0 p1", errors.TooMany, what="deeds", limit=300)
        again = Desk.again(desk.lines())
        self.assertEqual(all_of(again), all_of(desk))


if __name__ == "__main__":
    unittest.main()
