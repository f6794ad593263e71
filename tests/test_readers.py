"""Lines, planes, curves and changes, read from texts; where a text is wrong."""

import re
import unittest

from curvepieces.curves import is_curve
from curvepieces.errors import InvalidText
from curvepieces.letters import is_change
from curvepieces.readers import change_of, curve_of, line_of, plane_of
from curvepieces.texts import change_text, curve_text, line_text, plane_text
from tests import plain
from tests.support import NOT_INTEGERS, Dice, check_call, exactly, refused
from tests.test_curves import CURVES, mixed_curves
from tests.test_texts import mixed_changes, mixed_lines, mixed_planes

# The letters, how often each may stand in a term, how many of all, how many parts.
READERS = {line_of: ("t", 12, 12, 1), plane_of: ("xy", 8, 16, 1), curve_of: ("t", 5, 5, 3), change_of: ("xy", 1, 1, 2)}

ALL = list(READERS)


def sections(reader, text):
    """For each part of a readable text its terms, pairs of a number and letters; None of what is not readable."""
    letters, each, most, many = READERS[reader]
    numeral, word = "(?:0|[1-9][0-9]{0,39})", f"[{letters}](?: *[{letters}])*"
    term = f"(?:{numeral} *{word}|{numeral}|{word})"
    if not re.fullmatch(" *:".join([f" *[+-]? *{term}(?: *[+-] *{term})* *"] * many), text):
        return None
    found = []
    for part in text.replace(" ", "").split(":"):
        found.append([])
        for sign, figures, told in re.findall(f"([+-]?)([0-9]*)([{letters}]*)", part):
            if len(told) > most or any(told.count(letter) > each for letter in letters):
                return None
            if figures or told:
                found[-1].append((int(sign + (figures or "1")), told))
    return found


def wrong_position(reader, text):
    """By words: the least position up to which nothing behind the text makes it readable; None if it is readable."""
    ends = [one + two for one in ("", "1") for two in ("", ":1", ":1:1")]
    for at in range(len(text)):
        if not any(sections(reader, text[:at + 1] + end) is not None for end in ends):
            return at
    return len(text) if sections(reader, text) is None else None


def told(reader, text):
    """What a readable text tells."""
    parts = []
    for terms in sections(reader, text):
        total = {}
        for number, letters in terms:
            key = (letters.count("x"), letters.count("y")) if "x" in READERS[reader][0] else (0, len(letters))
            total[key] = total.get(key, 0) + number
        parts.append(total)
    if reader is change_of:
        return [part.get(key, 0) for part in parts for key in ((1, 0), (0, 1), (0, 0))]
    if reader is plane_of:
        return plain.gathered(parts[0])
    lines = [(plain.gathered(part) or [[]])[0] for part in parts]
    return lines if reader is curve_of else lines[0]


class ReadersTest(unittest.TestCase):

    def refuse(self, position, reader, text):
        """The reader refuses the text, with this position."""
        for raised in (refused(self, InvalidText, reader, text), refused(self, InvalidText, reader, text=text)):
            self.assertEqual(exactly(raised.position), exactly(position), (reader.__name__, text))


class WrittenTest(ReadersTest):

    def test_what_is_written_is_read(self):
        for reader, writer, values in ((line_of, line_text, mixed_lines(180, 100)),
                                       (plane_of, plane_text, mixed_planes(181, 80)),
                                       (curve_of, curve_text, CURVES + mixed_curves(182, 30)),
                                       (change_of, change_text, mixed_changes(183, 50))):
            for value in values:
                text = writer(value)
                self.assertEqual(exactly(reader(text)), exactly(value), text)
                self.assertEqual(reader(text=text.replace(" ", "")), value)
                self.assertEqual(reader(text="  ".join(text.split(" ")) + " "), value)

    def test_told_ones(self):
        self.assertEqual(exactly(plane_of("yx+2 - 3xx")), exactly([[2], [0, 1], [-3]]))
        self.assertEqual(exactly(line_of("t - t")), exactly([]))
        self.assertEqual(exactly(curve_of("tt:t:1")), exactly([[0, 0, 1], [0, 1], [1]]))
        self.assertEqual(exactly(change_of("y : -x + 2")), exactly([0, 1, 0, -1, 0, 2]))


class LineTest(ReadersTest):

    def test_signs_and_numerals(self):
        for text, line in (("0", []), ("-0", []), ("+0", []), ("0t", []), ("0 tt", []), ("-t", [0, -1]), ("+t", [0, 1]),
                           ("+ 3 t", [0, 3]), ("1t", [0, 1]), ("10t", [0, 10]), ("t+t+t", [0, 3]), ("2t-2t", []),
                           ("5-5+t-0ttt", [0, 1]), ("1+2+3", [6]), ("t-1-t", [-1]), ("-7", [-7]), ("t t", [0, 0, 1]),
                           (" t  t ", [0, 0, 1]), ("   -   3", [-3]), ("100000t-1", [-1, 100000])):
            self.assertEqual(exactly(line_of(text)), exactly(line), text)

    def test_wrong_positions(self):
        for text, position in (("", 0), (" ", 1), ("    ", 4), ("+", 1), ("-", 1), (" - ", 3), ("++t", 1), ("t+-t", 2),
                               ("t--t", 2), ("- +t", 2), ("t+", 2), ("t + ", 4), ("x", 0), ("T", 0), ("tx", 1),
                               ("t y", 2),
                               ("2x", 1), ("t2", 1), ("t 2", 2), ("1 2", 2), ("12 3t", 3), ("00", 1), ("01", 1),
                               ("-07", 2),
                               ("1 0", 2), ("t:t", 1), (":", 0), ("t*t", 1), ("(t)", 0), ("t,", 1), ("t.", 1),
                               ("3.5", 1),
                               ("t\n", 1), ("\nt", 0), ("t=0", 1), ("t + 1 z", 6), ("?", 0), ("t~", 1), ("/", 0),
                               ("t @", 2)):
            self.refuse(position, line_of, text)

    def test_numerals_of_40_figures_and_more(self):
        self.assertEqual(line_of("9" * 40), [10 ** 40 - 1])
        self.assertEqual(line_of("t-" + "1" + "0" * 39 + "tt"), [0, 1, -10 ** 39])
        self.assertEqual(line_of("9" * 40 + "+1"), [10 ** 40])
        self.refuse(40, line_of, "9" * 41)
        self.refuse(42, line_of, "t-" + "1" * 41 + "t")
        self.refuse(40, line_of, "9" * 41 + "?")
        self.refuse(41, line_of, "9" * 40 + " 9")

    def test_letters(self):
        self.assertEqual(line_of("t" * 12), [0] * 12 + [1])
        self.assertEqual(line_of("3" + "t " * 12 + "-" + "t" * 12), [0] * 12 + [2])
        self.refuse(12, line_of, "t" * 13)
        self.refuse(14, line_of, "t-" + "t" * 13)
        self.refuse(24, line_of, "t " * 13)
        self.assertEqual(line_of("t" * 12 + "+t"), [0, 1] + [0] * 10 + [1])


class PlaneTest(ReadersTest):

    def test_any_sequence_of_letters(self):
        for text, plane in (("xyx", [[], [], [0, 1]]), ("y x", [[], [0, 1]]), ("yyxx - xxyy", []),
                            ("2yx + 3xy", [[], [0, 5]]),
                            ("x" * 8 + "y" * 8, [[]] * 8 + [[0] * 8 + [1]]), ("xy" * 8, [[]] * 8 + [[0] * 8 + [1]]),
                            ("0xy", []), ("-x+y-7", [[-7, 1], [-1]]), ("x+1-x", [[1]])):
            self.assertEqual(exactly(plane_of(text)), exactly(plane), text)

    def test_wrong_positions(self):
        for text, position in (("t", 0), ("xt", 1), ("", 0), ("x:y", 1), ("x" * 9, 8), ("y" * 9, 8),
                               ("xy" * 8 + "x", 16),
                               ("x" * 8 + "y" * 9, 16), ("y+" + "x" * 9, 10), ("xx - 2yy z", 9), ("xx - 2yy +", 10),
                               ("xx - 2yy 2", 9), ("x" * 8 + " x", 9), ("z", 0), ("X", 0)):
            self.refuse(position, plane_of, text)


class CurveTest(ReadersTest):

    def test_three_lines(self):
        self.assertEqual(curve_of(" t : 1 : 0 "), [[0, 1], [1], []])
        self.assertEqual(curve_of("ttttt:t-t:1"), [[0, 0, 0, 0, 0, 1], [], [1]])
        self.assertEqual(curve_of("t - t + 1 : 2t t : -t"), [[1], [0, 0, 2], [0, -1]])

    def test_wrong_positions(self):
        for text, position in (("", 0), ("t", 1), ("t:", 2), ("t:t", 3), ("t:t:", 4), ("t : 1 : 0 :", 10),
                               ("t:t:t:t", 5),
                               (":t:1", 0), ("t::1", 2), ("t:-:1", 3), ("t:1:+", 5), ("tttttt:1:1", 5),
                               ("1:1:tttttt", 9),
                               ("t:x:1", 2), ("t;t;1", 1), ("t:12 1:1", 5), ("t:1:01", 5)):
            self.refuse(position, curve_of, text)

    def test_what_is_no_curve(self):
        for text in ("t:t:t", "1:2:3", "0:0:0", "0:0:t", "t:2t:0", "t-t:5:1", "tt:t:ttt"):
            self.refuse(None, curve_of, text)


class ChangeTest(ReadersTest):

    def test_two_planes(self):
        self.assertEqual(change_of("x:y"), [1, 0, 0, 0, 1, 0])
        self.assertEqual(change_of(" 2x + 3 - x + 5y : 4 - y + 1 "), [1, 5, 3, 0, -1, 5])
        self.assertEqual(change_of("y-y+x:y"), [1, 0, 0, 0, 1, 0])

    def test_wrong_positions(self):
        for text, position in (("", 0), ("x", 1), ("x:", 2), ("x:y:", 3), ("x:y:1", 3), (":x:y", 0), ("xx:y", 1),
                               ("xy:y", 1),
                               ("x:yx", 3), ("x y:x", 2), ("t:y", 0), ("x:-", 3), ("2x:y2", 4)):
            self.refuse(position, change_of, text)

    def test_what_is_no_change(self):
        for text in ("x:x", "x:1", "0:0", "x+y:2x+2y", "1:y", "x-x:y", "3:4"):
            self.refuse(None, change_of, text)


class WordsTest(ReadersTest):

    def check(self, reader, text):
        """As the words want; whether it is readable."""
        position = wrong_position(reader, text)
        if position is not None:
            self.refuse(position, reader, text)
            return False
        wanted = told(reader, text)
        good = is_curve(wanted) if reader is curve_of else is_change(wanted) if reader is change_of else True
        if good:
            self.assertEqual(exactly(reader(text)), exactly(wanted), text)
        else:
            self.refuse(None, reader, text)
        return True

    def test_all_short_texts(self):
        for reader in ALL:
            marks = "".join(sorted(set(READERS[reader][0] + "+- 01:")))
            texts = [""]
            for _ in range(4):
                texts = texts + [text + mark for text in texts if len(text) == len(texts[-1]) for mark in marks]
            for text in texts:
                self.check(reader, text)

    def test_each_character(self):
        for reader, text in ((line_of, "tt"), (plane_of, "xy"), (curve_of, "t:2:t"), (change_of, "x:y-1")):
            for code in [10] + [code for code in range(32, 127) if code != 37]:
                for at in range(len(text) + 1):
                    self.check(reader, text[:at] + chr(code) + text[at:])

    def test_mixed(self):
        dice = Dice(184)
        for reader in ALL:
            seen = []
            for _ in range(400):
                text = ""
                for _ in range(dice.roll(1, 9)):
                    pieces = ["t", "x", "y", "+", "-", " ", ":", "0", "1", "20", "305", "x y", "3t", "2x", "tt", "-y",
                              "+1"]
                    text += pieces[dice.roll(0, len(pieces) - 1)]
                seen.append(self.check(reader, text))
            for _ in range(200):
                letters, many = READERS[reader][0], READERS[reader][3]
                terms = []
                for _ in range(6):
                    sign, figures = "+-"[dice.roll(0, 1)], ["", "7", "0", "12"][dice.roll(0, 3)]
                    terms.append(sign + figures + letters[dice.roll(0, len(letters) - 1)])
                cuts = ":".join("".join(terms[at::many]) for at in range(many))
                seen.append(self.check(reader, cuts))
                at = dice.roll(0, len(cuts))
                seen.append(self.check(reader, cuts[:at] + "+-:0 t?x"[dice.roll(0, 7)] + cuts[at:]))
            self.assertGreater(min(seen.count(True), seen.count(False)), 60)


class ConventionsTest(ReadersTest):

    def test_what_is_no_string(self):
        for reader in ALL:
            for value in NOT_INTEGERS + [0, 1, ["t"], ("t",), [0, 1], b"t", b"", {"t": 1}]:
                if not isinstance(value, str):
                    self.refuse(None, reader, value)

    def test_what_is_returned_is_new(self):
        for reader, text in ((line_of, "tt-1"), (line_of, "0"), (plane_of, "xxy-3"), (plane_of, "0"),
                             (curve_of, "t:1:0"),
                             (change_of, "x:y")):
            check_call(self, reader, [text])


if __name__ == "__main__":
    unittest.main()
