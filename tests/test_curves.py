"""Curves by a time: what is one, degrees, points at a time and at infinite time, another time."""

import unittest
from math import gcd

from curvepieces.curves import by_time, curve_degree, is_curve, point_after, point_at
from curvepieces.errors import InvalidCurve, InvalidLine, InvalidNumber
from tests import plain
from tests.support import (NOT_CURVES, NOT_INTEGERS, NOT_LINES, Dice, as_tuples, check_call, check_judge,
                           check_parameters, exactly, refused_limit, refused_value)

CIRCLE, CUSP = [[1, 0, -1], [0, 2], [1, 0, 1]], [[0, 0, 1], [0, 0, 0, 1], [1]]
STRAIGHT, KNOT = [[0, 1], [1], [1]], [[-1, 0, 1], [0, -1, 0, 1], [1]]

CURVES = [CIRCLE, CUSP, STRAIGHT, KNOT, [[0, 1], [1], []], [[], [0, 1], [1]], [[1], [], [0, 0, 0, 0, 0, 1]],
          [[0, 1], [0, 0, 1], [1]], [[0, 0, 1], [0, 0, 0, 0, 1], [1]], [[2], [0, 2], [4, 6]], [[-6], [0, -9], [15]],
          [[1, 1, 1, 1, 1, 1], [1, -1], [3]], [[0, 1], [1, 1], [2, 1]], [[0, 0, 1], [0, 0, 2], [1]],
          [[0, 0, 0, 0, 0, -4], [1, 2], [0, 3]], [[1, 0, 0, 0, 1], [0, 0, 0, 0, 2], [0, 1, 0, 0, -3]]]


def mixed_curves(seed, many):
    """Curves of degrees 1 to 5, mixed, some with lines that are [] or numbers."""
    dice, found = Dice(seed), []
    while len(found) < many:
        lines = [dice.line(dice.roll(-1, 5), dice.roll(1, 30)) for _ in range(3)]
        if is_curve(lines):
            found.append(lines)
    return found


def common_degree(lines):
    """The degree of the common part of all three lines, not all []."""
    common = []
    for line in lines:
        one, two = common, line
        while two:
            one, two = two, plain.divided(one, two)[1]
        common = one
    return len(common) - 1


def is_point_of(point, numbers):
    """Whether the point is told as the document wants, and is the numbers up to a number."""
    first = [number for number in point if number]
    return (exactly(point)[0] == "list" and {number.__class__ for number in point} == {int} and first[0] > 0 and
            gcd(*point) == 1 and len(point) == 3 and
            all(point[i] * numbers[j] == point[j] * numbers[i] for i in range(3) for j in range(3)))


def put_in(numbers, line):
    result = []
    for number in numbers[::-1]:
        result = plain.plus(plain.times(result, line), [number])
    return result


class CurveTest(unittest.TestCase):

    def test_curves(self):
        for curve in CURVES:
            self.assertIs(is_curve(curve), True)
            self.assertIs(is_curve(value=as_tuples(curve)), True)
            self.assertIs(is_curve(tuple(curve)), True)

    def test_what_is_none(self):
        check_judge(self, is_curve, NOT_CURVES + CURVES)
        for value in NOT_CURVES:
            self.assertIs(is_curve(value), False, value)

    def test_by_words(self):
        dice, seen = Dice(120), []
        for _ in range(300):
            part = dice.line(dice.roll(0, 1), 2)
            lines = [plain.times(part, dice.line(dice.roll(-1, 2), 2)) for _ in range(3)]
            told = is_curve(lines)
            top = max(len(line) for line in lines) - 1
            self.assertIs(told, 1 <= top <= 5 and common_degree(lines) == 0, lines)
            seen.append(told)
        self.assertGreater(min(seen.count(True), seen.count(False)), 40)

    def test_common_parts(self):
        for part in ([0, 1], [1, 1], [-2, 0, 1], [3, 0, 5]):
            for curve in CURVES[:6]:
                lines = [plain.times(part, line) for line in curve]
                self.assertIs(is_curve(lines), False)
        # Two of them may have one; so may all three a number.
        self.assertIs(is_curve([[0, 1], [0, 0, 1], [1]]), True)
        self.assertIs(is_curve([[0, 1], [0, 1], [1, 1]]), True)
        self.assertIs(is_curve([[-1, 0, 1], [2, 3, 1], [-2, 1, 1]]), True)
        self.assertIs(is_curve([[0, 2], [2], [4]]), True)
        self.assertIs(is_curve([[0, 1], [0, 2], []]), False)

    def test_degrees(self):
        self.assertEqual([curve_degree(curve) for curve in (STRAIGHT, CIRCLE, CUSP, CURVES[6], CURVES[8])],
                         [1, 2, 3, 5, 4])
        for curve in CURVES + mixed_curves(121, 30):
            self.assertEqual(exactly(curve_degree(curve=curve)), exactly(max(len(line) for line in curve) - 1))
        self.assertEqual({curve_degree(curve) for curve in CURVES}, {1, 2, 3, 4, 5})
        for top in range(1, 6):
            self.assertIs(is_curve([[1], [0] * top + [1], []]), True)
        for top in (6, 7, 12):
            self.assertIs(is_curve([[1], [0] * top + [1], []]), False)


class PointTest(unittest.TestCase):

    def test_at_times(self):
        for curve in CURVES + mixed_curves(122, 40):
            for time in (0, 1, -1, 2, -7, 30, 999999, 10 ** 29):
                told = point_at(curve, time)
                self.assertTrue(is_point_of(told, [plain.value(line, time) for line in curve]), (curve, time))
                self.assertEqual(point_at(number=time, curve=as_tuples(curve)), told)

    def test_at_infinite_time(self):
        for curve in CURVES + mixed_curves(123, 40):
            top = curve_degree(curve)
            told = point_after(curve=curve)
            self.assertTrue(is_point_of(told, [(line + [0] * 6)[top] for line in curve]), curve)

    def test_told_ones(self):
        self.assertEqual([point_at(CIRCLE, 2), point_after(CIRCLE), point_at(CUSP, -1), point_after(CUSP)],
                         [[3, -4, -5], [1, 0, -1], [1, -1, 1], [0, 1, 0]])

    def test_first_numbers_that_are_nought(self):
        self.assertEqual(point_at([[0, 1], [-4, 1], [6]], 0), [0, 2, -3])
        self.assertEqual(point_at([[0, 1], [0, -5], [-6, 1]], 0), [0, 0, 1])
        self.assertEqual(point_at([[0, 1], [0, -5], [-6, 1]], 6), [1, -5, 0])
        self.assertEqual(point_at([[], [0, 1], [-3]], -6), [0, 2, 1])
        self.assertEqual(point_at([[], [0, 1], [-3]], 0), [0, 0, 1])
        self.assertEqual(point_after([[1], [3, -4], [0, 6]]), [0, 2, -3])
        self.assertEqual(point_after([[1], [0, 1], [0, 0, -6]]), [0, 0, 1])
        self.assertEqual(point_after([[], [0, -3], [1]]), [0, 1, 0])
        self.assertEqual(point_after([[0, 0, -3], [0, 0, 6], [1]]), [1, -2, 0])
        self.assertEqual(point_at([[-2], [0, -4], [-6]], 3), [1, 6, 3])

    def test_another_time_leads_to_the_same_points(self):
        for curve in CURVES[:5]:
            for line in ([1, 2], [3, -1], [-7, 1]):
                led = by_time(curve, line)
                for time in (-2, 0, 1, 5):
                    self.assertEqual(point_at(led, time), point_at(curve, plain.value(line, time)))


class ByTimeTest(unittest.TestCase):

    def test_mixed(self):
        dice = Dice(124)
        for curve in CURVES + mixed_curves(125, 30):
            for size in range(1, 5 // curve_degree(curve) + 1):
                line = dice.line(size, 20)
                led = by_time(curve, line)
                self.assertEqual(exactly(led), exactly([put_in(numbers, line) for numbers in curve]))
                self.assertIs(is_curve(led), True)
                self.assertEqual(curve_degree(led), size * curve_degree(curve))
                self.assertEqual(by_time(line=tuple(line), curve=as_tuples(curve)), led)

    def test_told_ones(self):
        self.assertEqual(by_time(STRAIGHT, [1, 0, 2]), [[1, 0, 2], [1], [1]])
        self.assertEqual(by_time(CIRCLE, [0, 0, 1]), [[1, 0, 0, 0, -1], [0, 0, 2], [1, 0, 0, 0, 1]])
        self.assertEqual(by_time([[0, 1], [], [1]], [0, 0, 0, 0, 0, -2]), [[0, 0, 0, 0, 0, -2], [], [1]])
        self.assertEqual(by_time([[0, 1, 1], [1], []], [-1, 1]), [[0, -1, 1], [1], []])

    def test_the_letter_itself(self):
        for curve in CURVES:
            self.assertEqual(by_time(curve, [0, 1]), curve)

    def test_lines_of_a_lesser_degree(self):
        for wrong in ([], (), [1], (7,), [-999999]):
            refused_value(self, InvalidLine, wrong, by_time, CIRCLE, wrong)
            refused_value(self, InvalidLine, wrong, by_time, line=wrong, curve=as_tuples(CUSP))

    def test_too_many(self):
        for curve in CURVES:
            top = curve_degree(curve)
            for size in range(1, 13):
                line = [0] * size + [1]
                if size * top > 5:
                    refused_limit(self, "degree", 5, by_time, curve, line)
                    refused_limit(self, "degree", 5, by_time, line=tuple(line), curve=curve)
                else:
                    self.assertEqual(curve_degree(by_time(curve, line)), size * top)


class ConventionsTest(unittest.TestCase):

    def test_parameters(self):
        curve = ("curve", CIRCLE, NOT_CURVES, InvalidCurve)
        for function in (curve_degree, point_after):
            check_parameters(self, function, [curve])
        check_parameters(self, point_at, [curve, ("number", 3, NOT_INTEGERS, InvalidNumber)])
        check_parameters(self, by_time, [curve, ("line", [1, 2], NOT_LINES + [[], (), [3], (-1,)], InvalidLine)])

    def test_what_is_passed_stays_and_what_is_returned_is_new(self):
        for curve in CURVES:
            for function, given in ((is_curve, [curve]), (curve_degree, [curve]), (point_after, [curve]),
                                    (point_at, [curve, 3]), (by_time, [curve, [0, 1]]), (by_time, [curve, [5, -2]])):
                wanted = check_call(self, function, given)
                self.assertEqual(check_call(self, function, [as_tuples(part) for part in given]),
                                 wanted)


if __name__ == "__main__":
    unittest.main()
