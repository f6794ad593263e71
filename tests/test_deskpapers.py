"""Papers that a desk keeps, and trials."""

import copy
import unittest

from curvepieces.claims import contrary, is_paper_of, paper_of
from curvepieces.desk import Trial, tried
from curvepieces.errors import CommandFailed, InvalidPaper, NameTaken, NotClean, UnknownLabel, UnknownName
from curvepieces.slopes import count_paper
from tests.desksupport import DEEDS, TWIN, Case, all_of, desk_of
from tests.support import STRANGE, Thing, as_tuples, exactly, lists_in, refused, refused_value


class PaperTest(Case):

    def setUp(self):
        self.desk = desk_of("plane p xx-2yy", "plane q x-y", "claim k pieces p 2")
        self.paper = count_paper(TWIN)

    def test_attached(self):
        desk, paper = self.desk, self.paper
        before = all_of(desk)[:-2]
        self.assertIs(desk.fits("k"), False)
        self.assertIs(desk.attach("k", paper), None)
        self.assertIs(desk.fits(label="k"), True)
        self.assertEqual((all_of(desk)[:-2], len(desk)), (before, 3))
        self.assertIs(desk.attach(paper=as_tuples(paper), label="k"), None)
        self.assertIs(desk.fits("k"), True)

    def test_what_is_no_paper(self):
        desk = self.desk
        for times in range(2):
            for value in STRANGE + [0, 1, [], (), self.paper[:2], list(self.paper), (3, self.paper), (2, self.paper),
                                    TWIN, Thing()]:
                refused_value(self, InvalidPaper, value, desk.attach, "k", value)
                refused_value(self, InvalidPaper, value, desk.attach, paper=value, label="k")
            self.assertIs(desk.fits("k"), times == 1)
            desk.attach("k", self.paper)

    def test_of_the_contrary(self):
        desk = self.desk
        desk.do_all("claim m pieces p 1", "claim n clean p", "claim w within p q", "claim u whole p",
                    "claim s splits p")
        desk.attach("m", (2, self.paper))
        desk.attach("n", 1)
        desk.attach("w", ("y", 1))
        self.assertEqual([desk.fits(label) for label in desk.labels], [False, True, True, False, False, True])
        for label in ("u", "s"):
            refused_value(self, InvalidPaper, value := [[0, -1], [1]], desk.attach, label, value)
        desk.do("mult p q")
        # Three pieces: none of the counts is shown any more; the plane is clean at 1, too; q goes into p.
        self.assertEqual([desk.fits(label) for label in desk.labels], [False, False, True, False, False, False])
        desk.attach("u", [[0, -1], [1]])
        desk.attach("w", (1, TWIN))
        self.assertEqual([desk.fits(label) for label in desk.labels], [False, False, True, False, True, True])
        desk.do("undo")
        self.assertEqual([desk.fits(label) for label in desk.labels], [False, True, True, False, False, False])
        desk.do("redo")
        self.assertEqual([desk.fits(label) for label in desk.labels], [False, False, True, False, True, True])

    def test_when_things_change(self):
        desk = self.desk
        desk.attach("k", self.paper)
        for command, fits in (("mult p q", False), ("undo", True), ("redo", False), ("undo", True), ("drop p", False),
                              ("plane p 3xx-6yy", True), ("drop p", False), ("line p tt", False), ("undo", False),
                              ("undo", True),
                              ("undo", False), ("undo", True)):
            desk.do(command)
            self.assertIs(desk.fits("k"), fits, command)
        desk.do("undo")
        refused_value(self, UnknownLabel, "k", desk.fits, "k")

    def test_while_it_is_gone(self):
        desk = self.desk
        desk.do("drop p")
        refused_value(self, InvalidPaper, self.paper, desk.attach, "k", self.paper)
        desk.do("plane p xx")
        refused_value(self, InvalidPaper, self.paper, desk.attach, "k", self.paper)
        self.assertIs(desk.fits("k"), False)
        # A part of what is not clean would show that it splits, were the state not gone.
        desk.do_all("plane s xx-yy", "claim m splits s")
        desk.attach("m", [[0, -1], [1]])
        desk.do_all("drop s", "plane s xx-2xy+yy")
        self.assertIs(is_paper_of(("splits", desk["s"]), [[0, -1], [1]]), True)
        self.assertIs(desk.fits("m"), False)
        refused_value(self, InvalidPaper, value := [[0, -1], [1]], desk.attach, "m", value)

    def test_when_the_label_is_noted_again(self):
        desk = self.desk
        desk.attach("k", self.paper)
        desk.do("forget k")
        refused_value(self, UnknownLabel, "k", desk.fits, "k")
        refused_value(self, UnknownLabel, "k", desk.attach, "k", self.paper)
        desk.do("claim k pieces p 2")
        self.assertIs(desk.fits("k"), True)
        # In other words: with another count, of another plane that is equal, by the other word of the row.
        for words, own in (("pieces p 3", False), ("otherwise p 2", False), ("pieces r 2", False), ("clean p", False),
                           ("pieces p 2", True)):
            desk.do_all("forget k", "plane r xx-2yy", "claim k " + words)
            self.assertIs(desk.fits("k"), own, words)
            desk.do("drop r")
            self.assertIs(desk.fits("k"), own, words)
        desk.do_all("forget k", "claim k clean p")
        desk.attach("k", 2)
        self.assertIs(desk.fits("k"), True)
        desk.do_all("forget k", "claim k pieces p 2")
        self.assertIs(desk.fits("k"), False)
        desk.do_all("forget k", "claim k clean p")
        self.assertIs(desk.fits("k"), True)

    def test_it_stays_when_the_claim_is_taken_back(self):
        desk = self.desk
        desk.attach("k", self.paper)
        self.answers(desk, "undo", "claim k pieces p 2")
        refused_value(self, UnknownLabel, "k", desk.fits, "k")
        self.answers(desk, "redo", "claim k pieces p 2")
        self.assertIs(desk.fits("k"), True)
        self.answers(desk, "undo", "claim k pieces p 2", "claim k pieces p 2", "k true")
        self.assertIs(desk.fits("k"), True)

    def test_it_is_no_deed(self):
        desk = self.desk
        desk.do("undo")
        desk.do_all("claim m clean p", "plane z 0", "undo")
        desk.attach("m", 1)
        self.assertEqual(len(desk), 3)
        self.answers(desk, "redo", "plane z 0", "undo", "plane z 0", "undo", "claim m clean p")

    def test_another_one_takes_its_place(self):
        desk = self.desk
        desk.attach("k", self.paper)
        desk.do("mult p q")
        self.assertIs(desk.fits("k"), False)
        desk.attach("k", (3, count_paper(desk["p"])))
        self.assertIs(desk.fits("k"), True)
        desk.do("undo")
        self.assertIs(desk.fits("k"), False)
        refused_value(self, InvalidPaper, None, desk.attach, "k", None)
        desk.do("redo")
        self.assertIs(desk.fits("k"), True)

    def test_papers_are_kept_as_copies(self):
        desk, paper = self.desk, copy.deepcopy(self.paper)
        desk.attach("k", paper)
        self.assertEqual(exactly(paper), exactly(self.paper))
        for part in lists_in(paper):
            part.clear()
        self.assertIs(desk.fits("k"), True)
        desk.do("claim w within p q")
        desk.do_all("forget w", "mult p q", "claim w within p q")
        other = (1, [[0, 0, -2], [], [1]])
        desk.attach("w", other)
        other[1][0].append(5)
        self.assertIs(desk.fits("w"), True)

    def test_papers_by_paper_of(self):
        desk = desk_of(*DEEDS[:-1])
        for label in desk.labels:
            claim = desk.claim_of(label)
            for told in (claim, contrary(claim)):
                if (paper := paper_of(told)) is not None:
                    desk.attach(label, paper)
                    self.assertIs(desk.fits(label), True)

    def test_do_all_does_not_take_papers_back(self):
        desk = self.desk
        desk.attach("k", self.paper)
        refused(self, CommandFailed, desk.do_all, "forget k", "no")
        self.assertIs(desk.fits("k"), True)
        desk.attempt("forget k")
        self.assertIs(desk.fits("k"), True)


class TrialTest(Case):

    def setUp(self):
        self.desk = desk_of("plane p xx-2yy", "claim k pieces p 2", "plane q x", "undo")

    def spoil(self, desk):
        desk.do_all("redo", "drop p", "forget k", "plane p x", "claim k clean p")
        desk.attach("k", 0)
        desk.do("undo")

    def test_it_ends(self):
        desk, before = self.desk, all_of(self.desk)
        trial = Trial(desk)
        with trial as held:
            self.assertIs(held, desk)
            self.spoil(held)
            self.assertNotEqual(all_of(desk), before)
        self.assertEqual(all_of(desk), before)
        # One behind the other, also of one Trial.
        desk.do("redo")
        after = all_of(desk)
        for again in (trial, trial, Trial(desk)):
            with again as held:
                held.do("drop p")
            self.assertEqual(all_of(desk), after)

    def test_it_is_left_by_an_error(self):
        desk, before = self.desk, all_of(self.desk)
        for error in (KeyError("x"), NotClean(), StopIteration(), KeyboardInterrupt()):
            with self.assertRaises(error.__class__) as caught:
                with Trial(desk) as held:
                    self.spoil(held)
                    raise error
            self.assertIs(caught.exception, error)
            self.assertEqual(all_of(desk), before)
        with self.assertRaises(NameTaken):
            with Trial(desk=desk):
                desk.do("drop p")
                desk.do("plane p x")
                desk.do("plane p x")
        self.assertEqual(all_of(desk), before)

    def test_papers_too(self):
        desk = self.desk
        with Trial(desk):
            desk.attach("k", count_paper(TWIN))
            self.assertIs(desk.fits("k"), True)
        self.assertIs(desk.fits("k"), False)
        desk.attach("k", count_paper(TWIN))
        with Trial(desk):
            desk.do_all("plane r x-y", "mult p r")
            desk.attach("k", (3, count_paper(desk["p"])))
        self.assertIs(desk.fits("k"), True)

    def test_one_in_another(self):
        desk, before = self.desk, all_of(self.desk)
        with Trial(desk):
            desk.do("redo")
            inner = all_of(desk)
            with Trial(desk) as held:
                held.do_all("drop q", "drop p")
            self.assertEqual(all_of(desk), inner)
        self.assertEqual(all_of(desk), before)

    def test_what_is_returned_out_of_it(self):
        desk, before = self.desk, all_of(self.desk)

        def inside():
            with Trial(desk) as held:
                held.do("drop p")
                return held.copy()
        other = inside()
        self.assertEqual(all_of(desk), before)
        self.assertEqual(other.names, [])

    def test_tried(self):
        desk, before = self.desk, all_of(self.desk)
        held = []

        def action(given):
            held.append(given)
            self.spoil(given)
            return given.names, given("states")
        self.assertEqual(exactly(tried(desk, action)), exactly((["p", "q"], "-")))
        self.assertIs(held[0], desk)
        self.assertEqual(all_of(desk), before)
        self.assertIs(tried(action=lambda given: None, desk=desk), None)
        result = []
        self.assertIs(tried(desk, lambda given: result), result)
        with self.assertRaises(UnknownName):
            tried(desk, lambda given: (given.do("drop p"), given.do("drop p")))
        self.assertEqual(all_of(desk), before)


if __name__ == "__main__":
    unittest.main()
