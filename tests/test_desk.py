"""The desk: what it keeps, deeds and answers, states, what is taken back, copies."""

import unittest

from curvepieces import errors
from curvepieces.desk import Desk
from curvepieces.errors import (CommandFailed, InvalidClaim, InvalidCommand, InvalidLine, InvalidLines, NameTaken,
                                NotClean,
                                NothingToRedo, NothingToUndo, UnknownLabel, UnknownName, ZeroPlane)
from curvepieces.slopes import count_paper
from tests.desksupport import DEEDS, TWIN, Case, all_of, desk_of, redone
from tests.support import NOT_INTEGERS, STRANGE, check_judge, exactly, lists_in, refused, refused_value


class KeepingTest(Case):

    def test_nothing_at_first(self):
        desk = Desk()
        self.assertEqual((desk.names, desk.labels, len(desk), desk.lines()), ([], [], 0, []))
        self.answers(desk, "names", "-", "states", "-")
        for name in ("p", "k", "undo"):
            self.assertNotIn(name, desk)
            self.fails(desk, "show " + name, UnknownName, value=name)
            self.fails(desk, "drop " + name, UnknownName, value=name)
            self.fails(desk, "state " + name, UnknownLabel, value=name)
            self.fails(desk, "claimed " + name, UnknownLabel, value=name)
            self.fails(desk, "forget " + name, UnknownLabel, value=name)
        self.fails(desk, "undo", NothingToUndo)
        self.fails(desk, "redo", NothingToRedo)

    def test_texts(self):
        desk = Desk()
        self.answers(desk, "plane p xx-2yy", "-", "line l tt-2", "-", "curve c tt:-t+1:0", "-", "change v y:-x+3", "-",
                     "plane z x-x", "-", "line n t-t", "-", "plane a1234567 yx+3xy-7", "-", "line p2 0", "-")
        self.assertEqual(desk.names, ["a1234567", "c", "l", "n", "p", "p2", "v", "z"])
        self.answers(desk, "names", "a1234567 c l n p p2 v z", "show p", "xx - 2yy", "show l", "tt - 2",
                     "show c", "tt : -t + 1 : 0", "show v", "y : -x + 3", "show z", "0", "show n", "0",
                     "show a1234567", "4xy - 7", "show p2", "0")
        for name, value in (("p", TWIN), ("l", [-2, 0, 1]), ("c", [[0, 0, 1], [1, -1], []]), ("v", [0, 1, 0, -1, 0, 3]),
                            ("z", []), ("n", []), ("a1234567", [[-7], [0, 4]])):
            self.assertEqual(exactly(desk[name]), exactly(value))
        self.assertEqual(len(desk), 8)

    def test_sums_and_products(self):
        desk = desk_of("plane p x+y", "plane q x-y", "plane r 2xx-2yy")
        self.answers(desk, "sum s p q", "-", "less d p q", "-", "times t p q", "-", "common g r p", "-", "over o r q",
                     "-",
                     "show s", "2x", "show d", "2y", "show t", "xx - yy", "show g", "x + y", "show o", "x + y",
                     "sum s2 p p", "-", "show s2", "2x + 2y", "less n p p", "-", "show n", "0", "less e q p", "-",
                     "show e", "-2y")

    def test_one_plane(self):
        desk = desk_of("plane p -4xxy+6x-2", "change w x+y:x-y+1", "plane tw xx-2yy")
        self.answers(desk, "plain a p", "-", "show a", "2xxy - 3x + 1", "swap b p", "-", "show b", "-4xyy + 6y - 2",
                     "slope c p", "-", "show c", "-8xy + 6", "row l p -2", "-", "show l", "8tt + 6t - 2",
                     "parting m tw", "-", "show m", "tt + 8t + 8", "led d tw w", "-", "show d",
                     "-xx + 6xy - 4x - yy + 4y - 2")
        self.assertEqual(exactly(desk["l"]), exactly([-2, 6, 8]))
        self.assertEqual(exactly(desk["m"]), exactly([8, 8, 1]))

    def test_curves(self):
        desk = desk_of("curve c tt:tttt:1", "curve w -tt+1:2t:tt+1", "line l tt+3", "line m 2t")
        self.answers(desk, "equation e c", "-", "show e", "xx - y", "drawn d w l", "-", "show d",
                     "-tttt - 6tt - 8 : 2tt + 6 : tttt + 6tt + 10", "lead c m", "-", "show c", "4tt : 16tttt : 1",
                     "equation f w", "-", "show f", "xx + yy - 1", "passes c", "2", "passes w", "1", "passes d", "2",
                     "lesser c", "2", "lesser w", "1", "curve cusp tt:ttt:1", "-", "lesser cusp", "1", "passes cusp",
                     "1", "curve s tt:tt:1", "-", "lesser s", "0", "passes s", "2", "at w 2", "3,-4,-5", "at w -1", "0,1,-1", "at c 0", "0,0,1")

    def test_turning(self):
        desk = desk_of("plane p x+y", "plane q x-y", "change v x+1:y-1", "plane kept x+y")
        self.answers(desk, "mult p q", "-", "show p", "xx - yy", "mult p p", "-", "show p", "xxxx - 2xxyy + yyyy",
                     "turn q v", "-", "show q", "x - y + 2", "show kept", "x + y")
        # What was made of a thing does not change with it.
        self.answers(desk, "sum s q kept", "-", "turn q v", "-", "drop kept", "-", "show s", "2x + 2", "show q",
                     "x - y + 4")

    def test_telling(self):
        desk = desk_of("plane p xx-2yy+7", "plane q xx-2yy", "plane r xxx-xxy-2xyy+2yyy", "plane o xx-2yy", "line l tt",
                       "line m tt", "plane n y")
        self.answers(desk, "pieces p", "1", "pieces q", "2", "pieces r", "3", "parts r", "1,2", "parts q", "2",
                     "parts p", "1",
                     "bound p", "6", "bound r", "15", "count p 7", "2", "count p 11", "1", "good p 7", "no",
                     "good p 11", "yes",
                     "value p 3 -2", "8", "value p 0 0", "7", "value q -999999 999999", "-999998000001", "clean p",
                     "yes",
                     "clean n", "no", "whole q", "yes", "whole r", "no", "same q o", "yes", "same p q", "no",
                     "same p p", "yes",
                     "same l m", "yes")
        self.assertEqual(len(desk), 7)

    def test_what_is_kept_can_not_be_changed(self):
        desk = desk_of("plane p xx-2yy", "line l tt", "curve c tt:t:1", "change v x:y", "claim k pieces p 2",
                       "claim m along c p 2")
        before = all_of(desk)
        for _ in range(2):
            for found in [desk[name] for name in desk.names] + [desk.claim_of(label) for label in desk.labels]:
                for part in lists_in(found):
                    part.append("spoiled")
            for found in (desk.names, desk.labels, desk.lines(), desk.do_all("names"), desk.attempt("names")):
                found.append("spoiled")
            self.assertEqual(all_of(desk), before)
        # Errors hold no list of the desk either.
        desk.do_all("line low 5", "plane free y")
        for command, error in (("drawn d c low", InvalidLine), ("claim n clean free", InvalidClaim)):
            raised = refused(self, error, desk.do, command)
            for part in lists_in(raised.value):
                part.append("spoiled")
        self.answers(desk, "show low", "5", "show free", "y")

    def test_indexing_and_in(self):
        desk = desk_of("plane p xx-2yy", "line l tt", "claim k pieces p 2")
        self.assertEqual(desk["p"], TWIN)
        for value in NOT_INTEGERS + [0, -1, 1, "k", "P", "p ", "q", ["p"], ("p",), b"p", "claim", "pp"]:
            self.assertIs(value in desk, False)
            refused_value(self, UnknownName, value, desk.__getitem__, value)
        check_judge(self, desk.__contains__, NOT_INTEGERS + ["p", "l", "k", ["p"]])
        self.assertIs("p" in desk, True)
        self.assertIs("l" in desk, True)
        desk.do("drop p")
        self.assertIs("p" in desk, False)
        refused_value(self, UnknownName, "p", desk.__getitem__, "p")

    def test_not_iterated(self):
        with self.assertRaises(TypeError):
            list(desk_of("plane p x"))


class StatesTest(Case):

    def test_each_claim(self):
        desk = desk_of("plane p xx-2yy", "plane q xx-yy", "plane r x-y", "plane d xy", "curve c tt:t:1", "plane e yy-x",
                       "plane w 1")
        for words, state in (("pieces p 2", "true"), ("pieces p 1", "false"), ("otherwise p 2", "false"),
                             ("otherwise p 3", "true"),
                             ("clean p", "true"), ("clean d", "false"), ("double d", "true"), ("double p", "false"),
                             ("within q r", "true"), ("within p r", "false"), ("outside q r", "false"),
                             ("outside p r", "true"),
                             ("whole p", "true"), ("whole q", "false"), ("splits p", "false"), ("splits q", "true"),
                             ("degrees c 1", "true"), ("degrees c 0", "false"), ("unlike c 1", "false"),
                             ("unlike c 5", "true"),
                             ("along c e 2", "true"), ("along c e 8", "true"), ("along c w 1", "false"),
                             ("aside c e 2", "false"),
                             ("aside c w 0", "true")):
            self.answers(desk, "claim k " + words, "k " + state, "state k", state, "states", "k " + state, "claimed k",
                         words)
            parts = words.split(" ")
            wanted = [int(part) if part.isdigit() else desk[part] for part in parts[1:]]
            claim = (parts[0], wanted[0], tuple(wanted[1:])) if len(wanted) == 3 else (parts[0], *wanted)
            self.assertEqual(exactly(desk.claim_of("k")), exactly(claim))
            self.assertEqual(exactly(desk.claim_of(label="k")), exactly(claim))
            self.answers(desk, "forget k", "-", "states", "-")

    def test_changes_are_told_sorted(self):
        desk = desk_of("plane p xx-2yy", "plane q x-y", "claim zz pieces p 2", "claim b whole p", "claim a1 pieces p 3",
                       "claim c clean q")
        self.answers(desk, "mult p q", "a1 true, b false, zz false", "states", "a1 true, b false, c true, zz false",
                     "undo", "mult p q", "states", "a1 false, b true, c true, zz true", "redo", "mult p q", "drop q",
                     "c gone",
                     "forget b", "-", "drop p", "a1 gone, zz gone", "plane p x-y+1", "a1 false, zz false",
                     "states", "a1 false, c gone, zz false", "forget c", "-")

    def test_gone_and_back(self):
        desk = desk_of("plane p xx-2yy", "claim k pieces p 2", "claim m clean p", "claim n whole p")
        self.answers(desk, "drop p", "k gone, m gone, n gone", "line p tt", "-", "states", "k gone, m gone, n gone",
                     "drop p", "-",
                     "curve p t:1:0", "-", "drop p", "-", "plane p y", "-", "state m", "gone", "drop p", "-",
                     # Not clean: the count and the parts are refused, to be clean is false.
                     "plane p xx", "m false", "states", "k gone, m false, n gone", "drop p", "m gone",
                     # Of a degree above 4 they are refused, too.
                     "plane p xxxxx+y", "m true", "drop p", "m gone", "plane p xx-3yy", "k true, m true, n true",
                     "undo", "plane p xx-3yy", "state k", "gone")
        for label in ("k", "m", "n"):
            self.assertIs(desk.claim_of(label), None)
            self.assertIs(desk.fits(label), False)
        self.answers(desk, "claimed k", "pieces p 2", "claimed n", "whole p")

    def test_a_thing_of_another_kind_is_never_taken_for_one(self):
        # A curve of these three lines could be a plane, too, and a plane three lines of a curve.
        desk = desk_of("plane p x-y", "claim k clean p", "claim m pieces p 1", "claim n within p p", "drop p")
        self.answers(desk, "curve p t:t:1", "-", "states", "k gone, m gone, n gone", "drop p", "-", "plane p xx+xy+y",
                     "k true, m true, n true", "drop p", "k gone, m gone, n gone", "line p 1", "-", "undo", "line p 1")
        self.assertEqual(desk_of("curve c t:t:1")["c"], desk_of("plane c xx+xy+y")["c"])
        desk = desk_of("curve c t:t:1", "plane e x-y", "claim k degrees c 0", "claim m along c e 1", "drop c")
        self.answers(desk, "plane c xx+xy+y", "-", "states", "k gone, m gone", "drop c", "-", "curve c t:t:1",
                     "k true, m true", "drop e", "m gone", "curve e t:t:1", "-", "drop e", "-", "plane e x-y", "m true")
        # A line could be a change, and a change a line.
        desk = desk_of("line l 2t+tttt+ttttt", "change v x+y:y", "plane p xx", "curve c t:tt:1")
        for command, name in (("led n p l", "l"), ("turn p l", "l"), ("drawn n c v", "v"), ("lead c v", "v")):
            self.fails(desk, command, UnknownName, value=name)

    def test_its_tuple_is_no_claim_any_more(self):
        desk = desk_of("curve c t:tt:1", "equation e c", "claim k along c e 2", "claim m aside c e 4", "change v x+1:y",
                       "plane f xy", "plane z 0", "claim w within e f", "plane s x")
        self.answers(desk, "states", "k true, m false, w false", "turn e v", "k false, m true", "undo", "turn e v",
                     # With more powers than letters it is no form.
                     "mult e f", "k gone, w true", "states", "k gone, m false, w true", "mult e z", "m gone, w gone",
                     "undo", "mult e z",
                     "undo", "mult e f", "states", "k true, m false, w false", "mult e s", "k gone", "line l tt", "-",
                     "lead c l", "-",
                     "states", "k gone, m false, w false", "drop c", "m gone")

    def test_lower_degree_of_curves(self):
        desk = desk_of("curve c t:tt:1", "claim k degrees c 1", "line l 2t", "line ll tt+t", "claim m unlike c 2")
        self.answers(desk, "states", "k true, m true", "lead c l", "-", "lead c ll", "k false, m false", "undo",
                     "lead c ll", "states", "k true, m true",
                     "drop c", "k gone, m gone", "curve c t:1:1", "k false, m true")

    def test_a_label_may_be_a_name(self):
        desk = desk_of("plane p x", "claim p clean p", "claim pieces pieces p 1")
        self.answers(desk, "states", "p true, pieces true", "drop p", "p gone, pieces gone", "forget p", "-", "names",
                     "-", "states", "pieces gone")
        self.assertEqual((desk.names, desk.labels), ([], ["pieces"]))

    def test_claim_of(self):
        desk = desk_of("plane p xx-2yy", "claim k pieces p 2")
        for value in NOT_INTEGERS + [0, "p", "no", "K", ["k"], ("k",), b"k"]:
            refused_value(self, UnknownLabel, value, desk.claim_of, value)
            refused_value(self, UnknownLabel, value, desk.claim_of, label=value)
            refused_value(self, UnknownLabel, value, desk.fits, value)
            refused_value(self, UnknownLabel, value, desk.attach, value, None)
            refused_value(self, UnknownLabel, value, desk.attach, paper=1, label=value)
        self.assertEqual(exactly(desk.claim_of("k")), exactly(("pieces", TWIN, 2)))
        desk.do("forget k")
        refused_value(self, UnknownLabel, "k", desk.claim_of, "k")


class UndoTest(Case):

    def test_each_deed(self):
        desk, seen = Desk(), [all_of(Desk())[:-1]]
        for at, line in enumerate(DEEDS):
            desk.do(line)
            self.assertEqual((len(desk), desk.lines()), (at + 1, DEEDS[:at + 1]))
            seen.append(all_of(desk)[:-1])
        for at in range(len(DEEDS) - 1, -1, -1):
            self.answers(desk, "undo", DEEDS[at])
            self.assertEqual(all_of(desk)[:-1], seen[at])
        self.fails(desk, "undo", NothingToUndo)
        for at, line in enumerate(DEEDS):
            self.answers(desk, "redo", line)
            self.assertEqual(all_of(desk)[:-1], seen[at + 1])
        self.fails(desk, "redo", NothingToRedo)

    def test_redo_behind_another_deed(self):
        desk = desk_of("plane p x", "plane q y", "undo")
        self.assertEqual(redone(desk), ["plane q y"])
        desk.do_all("names", "show p", "states")
        self.assertEqual(redone(desk), ["plane q y"])
        self.fails(desk, "plane p x", NameTaken, name="p")
        self.fails(desk, "show no", UnknownName, value="no")
        self.assertEqual(redone(desk), ["plane q y"])
        desk.attempt("plane r x")
        self.assertEqual(redone(desk), ["plane q y"])
        desk.do("plane r x")
        self.fails(desk, "redo", NothingToRedo)
        self.answers(desk, "undo", "plane r x", "undo", "plane p x", "redo", "plane p x", "redo", "plane r x")
        self.fails(desk, "redo", NothingToRedo)

    def test_undo_and_redo_are_no_deeds(self):
        desk = desk_of("plane p x", "undo", "redo", "undo")
        self.assertEqual((len(desk), desk.lines()), (0, []))
        self.answers(desk, "redo", "plane p x")
        self.assertEqual((len(desk), desk.lines()), (1, ["plane p x"]))


class AllTest(Case):

    def test_do_all(self):
        desk = Desk()
        self.assertEqual(exactly(desk.do_all()), exactly([]))
        self.assertEqual(exactly(desk.do_all("plane p x", "names", "undo", "redo", "show p")),
                         exactly(["-", "p", "plane p x", "plane p x", "x"]))
        before = all_of(desk)
        for commands, position, error in ((("plane q x", "plane p x"), 1, NameTaken),
                                          (("undo", "undo"), 1, NothingToUndo),
                                          (("no",), 0, InvalidCommand),
                                          (("plane q x", "drop p", "claim k clean q", "redo"), 3, NothingToRedo),
                                          (("plane q y", "state k", "no"), 1, UnknownLabel),
                                          (("drop p", "plane q x", 7), 2, InvalidCommand),
                                          (("plane q y", "pieces q"), 1, NotClean),
                                          (("mult p p",) * 4, 3, errors.TooMany)):
            for function in (desk.do_all, desk.attempt):
                raised = refused(self, CommandFailed, function, *commands)
                self.assertEqual(exactly(raised.position), exactly(position))
                self.assertIs(raised.__cause__.__class__, error)
                self.assertEqual(all_of(desk), before)

    def test_attempt(self):
        desk = desk_of("plane p xx-2yy", "claim k whole p", "plane q x", "undo")
        before = all_of(desk)
        self.assertEqual(exactly(desk.attempt("plane r y", "mult p p", "undo", "undo", "undo", "states")),
                         exactly(["-", "k gone", "mult p p", "plane r y", "claim k whole p", "-"]))
        self.assertEqual(all_of(desk), before)
        self.assertEqual(exactly(desk.attempt()), exactly([]))
        self.assertEqual(desk.attempt("redo", "names"), ["plane q x", "p q"])
        self.assertEqual(all_of(desk), before)

    def test_calling_is_doing(self):
        desk = Desk()
        self.assertEqual(desk("plane p x"), "-")
        self.assertEqual(desk(command="show p"), "x")
        self.assertEqual(desk.do(command="undo"), "plane p x")

    def test_copies_go_on_by_themselves(self):
        desk = desk_of("plane p xx-2yy", "claim k whole p", "claim m pieces p 2", "plane q x", "undo")
        desk.attach("m", count_paper(TWIN))
        other = desk.copy()
        self.assertIs(other.__class__, Desk)
        before = all_of(desk)
        self.assertEqual(all_of(other), before)
        self.assertIs(other.fits("m"), True)
        other.do_all("redo", "drop p", "forget k")
        other.do("claim k clean q")
        other.attach("k", 0)
        self.assertEqual(all_of(desk), before)
        third = other.copy()
        desk.do_all("undo", "undo", "plane r y")
        self.assertEqual(all_of(third), all_of(other))
        self.assertEqual((other.names, desk.names), (["q"], ["p", "r"]))

    def test_again(self):
        desk = desk_of(*DEEDS)
        lines = desk.lines()
        for told in (lines, tuple(lines)):
            again = Desk.again(told)
            self.assertIs(again.__class__, Desk)
            self.assertEqual(all_of(again), all_of(desk))
        self.assertEqual(lines, DEEDS)
        lines.append("plane n x")
        self.assertEqual((again.lines(), desk.lines()), (DEEDS, DEEDS))
        self.assertEqual(all_of(Desk.again(lines=[])), all_of(Desk()))
        self.assertEqual(len(Desk.again(["plane p x"])), 1)
        self.assertEqual(desk.again(()).names, [])

    def test_again_of_what_is_no_list_and_of_no_deeds(self):
        for value in NOT_INTEGERS + [0, 1, "plane p x", {"plane p x": 1}]:
            if not isinstance(value, (list, tuple)):
                self.assertIs(refused(self, InvalidLines, Desk.again, value).position, None)
                self.assertIs(refused(self, InvalidLines, Desk.again, lines=value).position, None)
        for wrong in STRANGE + ["undo", "redo", "names", "states", "show p", "plane p", "", ["plane q x"],
                                "plane p xx - y", 7]:
            for at in range(3):
                lines = ["plane p x", "plane p x", "drop no"]
                lines[at] = wrong
                raised = refused(self, InvalidLines, Desk.again, lines)
                self.assertEqual(exactly(raised.position), exactly(at))
                lines[2] = wrong
                self.assertEqual(refused(self, InvalidLines, Desk.again, tuple(lines)).position, at)

    def test_again_of_lines_that_fail(self):
        for lines, position, error in ((["plane p x", "plane p x"], 1, NameTaken), (["drop p"], 0, UnknownName),
                                       (["plane p x", "plane q 0", "over r p q", "drop no"], 2, ZeroPlane),
                                       (["plane p y", "claim k clean p"], 1, InvalidClaim)):
            raised = refused(self, CommandFailed, Desk.again, lines)
            self.assertEqual(exactly(raised.position), exactly(position))
            self.assertIs(raised.__cause__.__class__, error)


if __name__ == "__main__":
    unittest.main()
