"""Names, commands, deeds, by their words alone."""

import unittest

from curvepieces.commands import is_command, is_deed, is_name
from tests.support import NOT_INTEGERS, STRANGE, Dice, check_call, check_judge

# What may stand for each kind of part, and what may not.
NAMES = (["p", "x", "plane", "a1", "z9", "abcdefgh", "a1234567", "t", "undo", "names", "a0"],
         ["", "1", "1a", "P", "aB", "p_", "p-", "p.", "abcdefghi", "a12345678", "-", "0", "p:q", "p+", "p\n", "p,q"])
COUNTS = (["0", "1", "9", "10", "99"], ["", "00", "01", "100", "-1", "-0", "+1", "a", "1a", "1.", "0x1", "1_0", "9-"])
NUMBERS = (["0", "7", "-7", "-1", "999999", "-999999", "100000"],
           ["", "-", "-0", "00", "01", "-01", "+1", "1000000", "-1000000", "--1", "1-", "a", "1.5", "-00", "1_000"])
PLANES = (["x", "0", "-0", "xx-2yy", "+x", "xyx+7", "999999", "999999xy-1", "x" * 8 + "y" * 8, "x+" * 39 + "yy", "0x"],
          ["", "t", "x:y", "x+", "--x", "01", "1000000", "1000000x", "x" * 9, "2x2", "x*y", "x+" * 40 + "y", "x-01y",
           "+", "x.y"])
LINES = (["t", "0", "tt-1", "-t", "t" * 12, "999999t", "+1-t", "t+" * 39 + "tt"],
         ["", "x", "t:t", "t" * 13, "1000000", "t-1000000t", "t+" * 40 + "t", "t2", "-", "00", "tt-"])
CURVES = (["t:t:t", "tt:t:1", "0:0:0", "ttttt:-1:+t", "1:2:3", "t+" * 36 + "t+tt" + ":1:1"],
          ["", "t", "t:t", "t:t:t:t", "tttttt:1:1", "x:y:1", "t:t:", ":t:t", "t::t", "t:1000000:1",
           "t+" * 37 + "t+tt:1:1"])
CHANGES = (["x:y", "0:0", "x+y-1:2y", "-x:+y", "1:1", "x-x:999999y"],
           ["", "x", "x:y:1", "xx:y", "xy:y", "t:1", "x:", ":y", "x:1000000y"])

# The words of both tables, with what stands behind each.
DEEDS = {"plane": [NAMES, PLANES], "line": [NAMES, LINES], "curve": [NAMES, CURVES], "change": [NAMES, CHANGES],
         "sum": [NAMES] * 3, "less": [NAMES] * 3, "times": [NAMES] * 3, "common": [NAMES] * 3, "over": [NAMES] * 3,
         "plain": [NAMES] * 2, "swap": [NAMES] * 2, "slope": [NAMES] * 2, "led": [NAMES] * 3,
         "row": [NAMES, NAMES, NUMBERS],
         "parting": [NAMES] * 2, "drawn": [NAMES] * 3, "equation": [NAMES] * 2, "turn": [NAMES] * 2,
         "mult": [NAMES] * 2,
         "lead": [NAMES] * 2, "drop": [NAMES], "forget": [NAMES]}
CLAIMS = {"pieces": [NAMES, COUNTS], "otherwise": [NAMES, COUNTS], "clean": [NAMES], "double": [NAMES],
          "within": [NAMES] * 2,
          "outside": [NAMES] * 2, "whole": [NAMES], "splits": [NAMES], "degrees": [NAMES, COUNTS],
          "unlike": [NAMES, COUNTS],
          "along": [NAMES, NAMES, COUNTS], "aside": [NAMES, NAMES, COUNTS]}
OTHERS = {"undo": [], "redo": [], "state": [NAMES], "states": [], "claimed": [NAMES], "names": [], "show": [NAMES],
          "pieces": [NAMES], "bound": [NAMES], "count": [NAMES, NUMBERS], "value": [NAMES, NUMBERS, NUMBERS],
          "parts": [NAMES], "clean": [NAMES], "whole": [NAMES], "good": [NAMES, NUMBERS], "at": [NAMES, NUMBERS],
          "lesser": [NAMES], "passes": [NAMES], "same": [NAMES] * 2}

EVERY = ([([word], parts, True) for word, parts in DEEDS.items()] +
         [(["claim", "k", word], parts, True) for word, parts in CLAIMS.items()] +
         [([word], parts, False) for word, parts in OTHERS.items()])


class NameTest(unittest.TestCase):

    def test_names(self):
        for value in NAMES[0]:
            self.assertIs(is_name(value), True, value)
            self.assertIs(is_name(value=value), True)

    def test_what_is_none(self):
        for value in NAMES[1] + [" p", "p ", "p q", "~", "?"]:
            self.assertIs(is_name(value), False, value)

    def test_lengths(self):
        self.assertEqual([is_name("a" * size) for size in (0, 1, 2, 7, 8, 9, 10, 400)],
                         [False, True, True, True, True, False, False, False])

    def test_each_character(self):
        small, figures = "abcdefghijklmnopqrstuvwxyz", "0123456789"
        for code in list(range(32, 127)) + [10]:
            self.assertIs(is_name(chr(code)), chr(code) in small)
            self.assertIs(is_name("a" + chr(code)), chr(code) in small + figures)
            self.assertIs(is_name("a" + chr(code) + "b"), chr(code) in small + figures)

    def test_any_value(self):
        for judge in (is_name, is_command, is_deed):
            check_judge(self, judge, NOT_INTEGERS + [0, 1, ["p"], ("p",), ["undo"], b"p", b"undo"])
            for value in [value for value in NOT_INTEGERS if not isinstance(value, str)] + [["p"], ("undo",), b"undo",
                                                                                            {"p"}]:
                self.assertIs(judge(value), False, value)


class CommandTest(unittest.TestCase):

    def check(self, parts, is_one, deed):
        """Whether the parts with one blank between them are a command, a deed."""
        text = " ".join(parts)
        self.assertIs(is_command(text), is_one, text)
        self.assertIs(is_deed(text), is_one and deed, text)
        self.assertIs(is_command(value=text), is_one)
        self.assertIs(is_deed(value=text), is_one and deed)

    def test_each_part(self):
        for ahead, kinds, deed in EVERY:
            valid = [kind[0][0] for kind in kinds]
            self.check(ahead + valid, True, deed)
            for at, (good, bad) in enumerate(kinds):
                for part in good:
                    self.check(ahead + valid[:at] + [part] + valid[at + 1:], True, deed)
                for part in bad:
                    self.check(ahead + valid[:at] + [part] + valid[at + 1:], False, deed)

    def test_too_few_and_too_many_parts(self):
        for ahead, kinds, deed in EVERY:
            valid = [kind[0][0] for kind in kinds]
            if valid:
                self.check(ahead + valid[:-1], False, deed)
            for more in ("p", "1", "x", ""):
                self.check(ahead + valid + [more], False, deed)

    def test_blanks(self):
        for ahead, kinds, deed in EVERY:
            valid = ahead + [kind[0][0] for kind in kinds]
            self.check([""] + valid, False, deed)
            self.check(valid + [""], False, deed)
            for at in range(1, len(valid)):
                self.check(valid[:at] + [""] + valid[at:], False, deed)
        self.check(["plane", "p", "xx", "-", "2yy"], False, True)

    def test_labels_of_claims(self):
        for word, kinds in CLAIMS.items():
            valid = [kind[0][0] for kind in kinds]
            for label in NAMES[0]:
                self.check(["claim", label, word] + valid, True, True)
            for label in NAMES[1]:
                self.check(["claim", label, word] + valid, False, True)
            self.check(["claim", word] + valid, False, True)

    def test_words(self):
        every = set(DEEDS) | set(OTHERS) | {"claim"}
        for word in list(every) + list(CLAIMS) + ["", "undoo", "Undo", "UNDO", "unclaim", "spin", "do", "tell", "x"]:
            for behind in ([], ["p"], ["p", "q"], ["p", "q", "r"], ["k", "clean", "p"]):
                text = " ".join([word] + behind)
                if word not in every:
                    self.assertIs(is_command(text), False, text)
                    self.assertIs(is_deed(text), False, text)
        for word in ("plane", "undo", "states", "clean", "count", "x"):
            self.check(["claim", "k", word, "p"], word == "clean", True)
        for text in ("claim", "claim k", "claim k clean", "claim clean p", "", " ", "\n", "undo\n", "undo\nundo",
                     "un do"):
            self.assertIs(is_command(text), False, text)

    def test_lengths_of_texts(self):
        for word, text in (("plane", "x+" * 39 + "x"), ("line", "t+" * 39 + "t"), ("curve", "t+" * 37 + "t:1:1"),
                           ("change", "x+" * 38 + "x:y")):
            for more in range(0, 4):
                longer = text + "-1" * more
                self.check([word, "p", longer], len(longer) <= 80, True)
        self.check(["plane", "p", "-" + "x+" * 39 + "y"], True, True)
        self.check(["plane", "p", "-" + "x+" * 39 + "yy"], False, True)

    def test_told_ones(self):
        self.assertEqual([is_command("plane p xx-2yy"), is_command("plane p xx - 2yy"), is_deed("claim k pieces p 2"),
                          is_command("curve c t:t:t"), is_deed("undo"), is_command("value p -3 02")],
                         [True, False, True, True, False, False])

    def test_mixed(self):
        dice = Dice(200)
        marks = "abpqxyt019-+:, \n"
        for _ in range(500):
            text = "".join(marks[dice.roll(0, len(marks) - 1)] for _ in range(dice.roll(0, 12)))
            self.assertIs(is_command(text), False, text)
            self.assertIs(is_command("plane p " + text).__class__, bool)
            self.assertIs(is_deed("claim " + text).__class__, bool)


class ConventionsTest(unittest.TestCase):

    def test_what_is_passed_stays(self):
        for value in ["undo", "plane p x", ["undo"], {"a": 1}] + STRANGE[:4]:
            for judge in (is_name, is_command, is_deed):
                check_call(self, judge, [value])


if __name__ == "__main__":
    unittest.main()
