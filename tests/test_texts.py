"""Lines, planes, curves and changes, written."""

import re
import unittest

from curvepieces.curves import is_curve
from curvepieces.errors import InvalidChange, InvalidCurve, InvalidLine, InvalidPlane
from curvepieces.letters import changed, is_change
from curvepieces.texts import change_text, curve_text, line_text, plane_text
from tests import plain
from tests.support import (NOT_CHANGES, NOT_CURVES, NOT_LINES, NOT_PLANES, Dice, as_tuples, check_call,
                           check_parameters, exactly)
from tests.test_curves import CIRCLE, CURVES, mixed_curves

# What stands between the ends of a written text: nothing else is let.
FORM = re.compile(r"(0|-?TERM( [+-] TERM)*)$".replace("TERM", "([1-9][0-9]*[txy]*|[txy]+)"))


def terms_of(text):
    """The list of the terms of a written text: pairs of the number and the letters, as they stand."""
    found = []
    for sign, figures, letters in re.findall(r"(^-?|(?<= )[+-] )([0-9]*)([txy]*)", text):
        found.append(((-1 if "-" in sign else 1) * int(figures or "1"), letters))
    return found


def mixed_lines(seed, many):
    dice = Dice(seed)
    return [dice.line(dice.roll(-1, 12), dice.roll(1, 3) ** dice.roll(1, 12)) for _ in range(many)]


def mixed_planes(seed, many):
    dice = Dice(seed)
    return [dice.plane(dice.roll(0, 8), dice.roll(0, 8), dice.roll(1, 3) ** dice.roll(1, 12)) for _ in range(many)]


def mixed_changes(seed, many):
    dice, found = Dice(seed), []
    while len(found) < many:
        change = [dice.roll(-2, 2) * dice.roll(1, 30) for _ in range(6)]
        if is_change(change):
            found.append(change)
    return found


class LineTest(unittest.TestCase):

    def test_told_ones(self):
        for line, text in (([], "0"), ([0, 1], "t"), ([0, -1], "-t"), ([1], "1"), ([-1], "-1"), ([7], "7"),
                           ([-20], "-20"),
                           ([1, 1], "t + 1"), ([-1, -1], "-t - 1"), ([-1, 1], "t - 1"), ([1, -1], "-t + 1"),
                           ([-2, 0, -1], "-tt - 2"), ([0, 0, 5], "5tt"), ([0, 0, -5], "-5tt"),
                           ([3, -2, 1], "tt - 2t + 3"),
                           ([10, 0, 0, -11], "-11ttt + 10"), ([0] * 12 + [1], "tttttttttttt"),
                           ([1, 0, -1, 1, 0, -12], "-12ttttt + ttt - tt + 1"),
                           ([-10 ** 41, 10 ** 40], "1" + "0" * 40 + "t - 1" + "0" * 41)):
            self.assertEqual(exactly(line_text(line)), exactly(text))
            self.assertEqual(line_text(line=tuple(line)), text)

    def test_mixed(self):
        for line in mixed_lines(170, 200):
            text = line_text(line)
            self.assertRegex(text, FORM)
            if line:
                wanted = [(number, "t" * power) for power, number in enumerate(line) if number][::-1]
                self.assertEqual(terms_of(text), wanted, text)
            else:
                self.assertEqual(text, "0")


class PlaneTest(unittest.TestCase):

    def test_told_ones(self):
        for plane, text in (([], "0"), ([[1]], "1"), ([[-1]], "-1"), ([[0, 1]], "y"), ([[], [1]], "x"),
                            ([[], [-1]], "-x"),
                            ([[0, -1]], "-y"), ([[0, 0, -2], [], [1]], "xx - 2yy"), ([[], [0, 1]], "xy"),
                            ([[5, 1], [2, -1]], "-xy + 2x + y + 5"), ([[-5, -1], [-2, 1]], "xy - 2x - y - 5"),
                            ([[], [], [0, 0, 3]], "3xxyy"), ([[0, 0, 0, 1], [0, 0, -1], [0, 1], [-1]],
                                                             "-xxx + xxy - xyy + yyy"),
                            ([[1, 0, 1], [0, 0, 1]], "xyy + yy + 1"), ([[999999]], "999999"),
                            ([[-30, 0, 40]], "40yy - 30"),
                            ([[0] * 8 + [1]] + [[]] * 7 + [[0] * 8 + [-1]], "-xxxxxxxxyyyyyyyy + yyyyyyyy")):
            self.assertEqual(exactly(plane_text(plane)), exactly(text))
            self.assertEqual(plane_text(plane=as_tuples(plane)), text)

    def test_mixed(self):
        for plane in mixed_planes(171, 150):
            text = plane_text(plane)
            self.assertRegex(text, FORM)
            wanted = [(number, "x" * i + "y" * j) for (i, j), number in sorted(plain.spread(plane).items(),
                                                                               reverse=True)]
            self.assertEqual(terms_of(text), wanted, text)


class CurveTest(unittest.TestCase):

    def test_told_ones(self):
        for curve, text in (([[0, 0, 1], [0, 1], [1]], "tt : t : 1"), (CIRCLE, "-tt + 1 : 2t : tt + 1"),
                            ([[0, 1], [1], []], "t : 1 : 0"), ([[], [0, -1], [-7]], "0 : -t : -7"),
                            ([[0, 0, 0, 0, 0, 1], [], [1]], "ttttt : 0 : 1")):
            self.assertEqual(exactly(curve_text(curve)), exactly(text))
            self.assertEqual(curve_text(curve=as_tuples(curve)), text)

    def test_the_three_lines(self):
        for curve in CURVES + mixed_curves(172, 40):
            self.assertEqual(curve_text(curve), " : ".join(line_text(line) for line in curve))


class ChangeTest(unittest.TestCase):

    def test_told_ones(self):
        for change, text in (([1, 2, 0, 0, 1, -1], "x + 2y : y - 1"), ([1, 0, 0, 0, 1, 0], "x : y"),
                             ([0, 1, 0, 1, 0, 0], "y : x"),
                             ([0, -1, 0, -1, 0, 0], "-y : -x"), ([-3, 1, -1, 1, 1, 1], "-3x + y - 1 : x + y + 1"),
                             ([0, 5, 6, 7, 0, -8], "5y + 6 : 7x - 8"), ((2, 0, 0, 0, 2, 0), "2x : 2y")):
            self.assertEqual(exactly(change_text(change)), exactly(text))
            self.assertEqual(change_text(change=tuple(change)), text)

    def test_what_x_and_y_become(self):
        for change in mixed_changes(173, 60):
            both = [changed([[], [1]], change), changed([[0, 1]], change)]
            self.assertEqual(change_text(change), " : ".join(plane_text(plane) for plane in both))


class ConventionsTest(unittest.TestCase):

    def test_parameters(self):
        check_parameters(self, line_text, [("line", [1], NOT_LINES, InvalidLine)])
        check_parameters(self, plane_text, [("plane", [[1]], NOT_PLANES, InvalidPlane)])
        check_parameters(self, curve_text, [("curve", CIRCLE, NOT_CURVES, InvalidCurve)])
        check_parameters(self, change_text, [("change", [1, 0, 0, 0, 1, 0], NOT_CHANGES, InvalidChange)])

    def test_what_is_passed_stays(self):
        for function, values in ((line_text, mixed_lines(174, 20)), (plane_text, mixed_planes(175, 20)),
                                 (curve_text, [curve for curve in CURVES if is_curve(curve)]),
                                 (change_text, mixed_changes(176, 20))):
            for value in values:
                wanted = check_call(self, function, [value])
                self.assertEqual(check_call(self, function, [as_tuples(value)]), wanted)


if __name__ == "__main__":
    unittest.main()
