"""Points over roots, and at which times curves pass them."""

import unittest
from math import gcd

from curvepieces.curves import by_time, curve_degree, point_after, point_at
from curvepieces.equations import drawn, equation
from curvepieces.errors import InvalidCurve, InvalidPoint, InvalidRoot
from curvepieces.followers import followers
from curvepieces.passings import passing_count, passings
from curvepieces.rootnumbers import root_times
from tests import plain
from tests.support import (NOT_CURVES, NOT_ROOTS, STRANGE, Dice, Thing, as_tuples, check_call, check_parameters,
                           exactly,
                           refused_value)
from tests.test_curves import CIRCLE, CURVES, CUSP, KNOT, STRAIGHT
from tests.test_equations import ALL, BEND, TWICE
from tests.test_rootnumbers import Case, mixed, not_over, whole

SMALL = [[0, 1], [-3, 1], [-2, 0, 1], [1, 0, 1], [1, 1, 1], [-2, 0, 0, 1], [5, -7, 3, 1], [1, 0, 0, 0, 1],
         [-2, 0, 0, 0, 1]]

NOUGHT, ONE = ([0], 1), ([1], 1)


def not_points(size):
    """What is no point over a root of this degree."""
    one, nought = ([1] + [0] * (size - 1), 1), ([0] * size, 1)
    return (STRANGE + [0, 1, -7, [], (), [one], [one, one], [one] * 4, [nought] * 3, (nought,) * 3, [1, 0, 1],
                       [[1], [0], [1]], [[one, one, one]], [one, one, None], [one, one, True], [one, one, 1],
                       [None, one, one], [one, Thing(), one], {0: one, 1: one, 2: one}, "111", [one, one, list(one)],
                       [nought, nought, list(one)], one, one + (1,)] +
            [[one, value, one] for value in not_over(size)] + [[value, nought, one] for value in not_over(size)[-12:]] +
            [(one, one, value) for value in not_over(size)[-20:]])


def told_number(fractions):
    """The number over a root as the package tells it."""
    bottom = 1
    for number in fractions:
        bottom = bottom * number.denominator // gcd(bottom, number.denominator)
    return [int(number * bottom) for number in fractions], bottom


def at_root(root, curve, place):
    """The point over the root at the time that is a number over it."""
    return [told_number(plain.over_value(root, plain.over_line(root, line), place)) for line in curve]


def lines_of(root, curve, point):
    """The three lines of the document, by words."""
    a, b, c = [plain.over_line(root, line) for line in curve]
    x, y, w = [plain.over_of(number) for number in point]

    def less(one, first, two, second):
        minus = plain.over_poly_times(root, tuple([-part for part in second]), two)
        return plain.over_poly_plus(root, plain.over_poly_times(root, first, one), minus)

    return [less(b, w, c, y), less(c, x, a, w), less(a, y, b, x)]


def put_in(root, follower, point):
    """A follower's three lines times the point's numbers, added."""
    total = []
    for line, number in zip(follower, point):
        total = plain.over_poly_plus(root, total,
                                     plain.over_poly_times(root, plain.over_of(number), plain.over_line(root, line)))
    return total


def on_equation(root, curve, point):
    """Whether the point is on the curve's equation."""
    plane, many = equation(curve)
    x, y, w = [plain.over_of(number) for number in point]
    total = plain.over(root, [])
    for (i, j), number in plain.spread(plane).items():
        term = plain.over(root, [number])
        for factor in [x] * i + [y] * j + [w] * (many - i - j):
            term = plain.over_times(root, term, factor)
        total = plain.over_plus(total, term)
    return not any(total)


def whole_point(root, numbers):
    return [whole(root, number) for number in numbers]


def some_points(dice, root, curve):
    """Points over the root: on the curve, on the lines on which a letter is 0, mixed."""
    itself = plain.over(root, [0, 1])
    found = [at_root(root, curve, itself), at_root(root, curve, plain.over(root, [dice.roll(-3, 3), 1])),
             whole_point(root, point_at(curve, dice.roll(-4, 4))), whole_point(root, point_after(curve)),
             whole_point(root, [1, 0, 0]), whole_point(root, [0, 1, 0]), whole_point(root, [0, 0, 1])]
    return found + [[mixed(dice, root, 5) for _ in range(2)] + [whole(root, 1)] for _ in range(2)]


class PassingsTest(Case):

    def check(self, root, curve, point):
        """The common line and infinite time by words; that passings are just where the equation is 0."""
        told = passings(curve, root, point)
        rows, infinite = told
        self.assertEqual((told.__class__, len(told), rows.__class__, infinite.__class__), (tuple, 2, list, int))
        for number in rows:
            self.check_number(root, number)
        lines, common = lines_of(root, curve, point), []
        for line in lines:
            common = plain.over_common(root, common, line)
        self.assertEqual([plain.over_of(number) for number in rows], common)
        self.assertEqual(rows[-1], whole(root, 1))
        self.assertEqual(infinite, curve_degree(curve) - (max(len(line) for line in lines) - 1))
        self.assertEqual(exactly(passing_count(curve, root, point)), exactly(len(rows) - 1 + infinite))
        self.assertIs(passing_count(curve, root, point) > 0, on_equation(root, curve, point))
        return told

    def test_mixed(self):
        dice, seen = Dice(160), []
        for curve in ALL:
            for root in (SMALL[dice.roll(0, 1)], SMALL[dice.roll(2, 4)], SMALL[dice.roll(5, 8)]):
                for point in some_points(dice, root, curve):
                    told = self.check(root, curve, point)
                    seen.append((len(told[0]) - 1, told[1]))
                    self.assertEqual(passings(point=as_tuples(point), root=tuple(root), curve=as_tuples(curve)), told)
        for wanted in ((0, 0), (1, 0), (0, 1), (2, 0), (1, 1), (0, 2), (0, 3)):
            self.assertGreater(seen.count(wanted), 3, wanted)

    def test_the_point_at_the_root_itself(self):
        for curve in ALL:
            for root in SMALL:
                itself = plain.over(root, [0, 1])
                point = at_root(root, curve, itself)
                rows, infinite = passings(curve, root, point)
                self.assertGreaterEqual(len(rows) - 1 + infinite, drawn(curve))
                self.assertFalse(any(plain.over_value(root, [plain.over_of(number) for number in rows], itself)))

    def test_the_points_at_told_times(self):
        for curve in ALL:
            for time in range(-3, 4):
                rows, _ = passings(curve, [0, 1], whole_point([0, 1], point_at(curve, time)))
                self.assertEqual(sum(plain.over_of(number)[0] * time ** power for power, number in enumerate(rows)), 0)
            rows, infinite = passings(curve, [0, 1], whole_point([0, 1], point_after(curve)))
            self.assertGreater(infinite, 0)

    def test_the_times_are_just_those_at_which_the_curve_is_there(self):
        for curve in ALL[:20]:
            for time in range(-2, 3):
                point = point_at(curve, time)
                rows, infinite = passings(curve, [5, 1], whole_point([5, 1], point))
                poly = [plain.over_of(number) for number in rows]
                for other in range(-5, 6):
                    there = point_at(curve, other) == point
                    self.assertEqual(not any(plain.over_value([5, 1], poly, plain.over([5, 1], [other]))), there)
                self.assertEqual(infinite > 0, point_after(curve) == point)

    def test_told_by_one_number_times_them(self):
        dice = Dice(161)
        for curve in ALL[::2]:
            for root in SMALL:
                point = some_points(dice, root, curve)[dice.roll(0, 8)]
                told = passings(curve, root, point)
                for factor in (whole(root, -1), mixed(dice, root, 9), told_number(plain.over(root, [3, 2]))):
                    if any(factor[0]):
                        other = [root_times(root, factor, number) for number in point]
                        self.assertEqual(passings(curve, root, other), told)
                        self.assertEqual(passing_count(curve, root, other), len(told[0]) - 1 + told[1])

    def test_the_pair_has_the_same_common_part(self):
        dice = Dice(162)
        for curve in ALL:
            first, second = followers(curve)
            for root in SMALL[::3]:
                for point in some_points(dice, root, curve)[::2]:
                    rows, infinite = passings(curve, root, point)
                    one, two = put_in(root, first, point), put_in(root, second, point)
                    common = plain.over_common(root, one, two)
                    self.assertEqual([plain.over_of(number) for number in rows], common)

    def test_another_time(self):
        for time in ([0, 0, 1], [1, -4, 2]):
            for point in ([0, 0, 1], [-1, 0, 1], [1, 0, 1], [1, 1, 1], [3, 4, 5]):
                led = passing_count(by_time(CIRCLE, time), [0, 1], whole_point([0, 1], point))
                self.assertEqual(led, 2 * passing_count(CIRCLE, [0, 1], whole_point([0, 1], point)))

    def test_told_ones(self):
        told = passings(KNOT, [0, 1], [NOUGHT, NOUGHT, ONE])
        self.assertEqual(exactly(told), exactly(([([-1], 1), ([0], 1), ([1], 1)], 0)))
        self.assertEqual(passings(CUSP, [0, 1], [NOUGHT, NOUGHT, ONE]), ([NOUGHT, NOUGHT, ONE], 0))
        self.assertEqual(passing_count(CUSP, [0, 1], [NOUGHT, NOUGHT, ONE]), 2)
        self.assertEqual(passings(BEND, [0, 1], [NOUGHT, ONE, NOUGHT]), ([ONE], 1))
        self.assertEqual(passings(CIRCLE, [0, 1], [([-1], 1), NOUGHT, ONE]), ([ONE], 1))
        self.assertEqual(passings(TWICE, [0, 1], [ONE, ONE, ONE]), ([([-1], 1), NOUGHT, ONE], 0))
        self.assertEqual(passings(TWICE, [0, 1], [NOUGHT, ONE, NOUGHT]), ([ONE], 2))
        self.assertEqual(passings(BEND, [-2, 0, 1], [([0, 1], 1), ([2, 0], 1), ([1, 0], 1)]),
                         ([([0, -1], 1), ([1, 0], 1)], 0))
        # The circle at z z = -1: its two points at which w is 0.
        self.assertEqual(passings(CIRCLE, [1, 0, 1], [([1, 0], 1), ([0, 1], 1), ([0, 0], 1)]),
                         ([([0, -1], 1), ([1, 0], 1)], 0))
        self.assertEqual(passings(BEND, [0, 1], [([1], 2), ([1], 4), ONE]), ([([-1], 2), ONE], 0))
        self.assertEqual(passings(STRAIGHT, [0, 1], [([3], 2), ONE, ONE]), ([([-3], 2), ONE], 0))

    def test_beside_the_curve(self):
        for curve in (CIRCLE, CUSP, BEND, TWICE, KNOT):
            for root in SMALL:
                point = [whole(root, 5), whole(root, 7), whole(root, 1)]
                self.assertEqual(passings(curve, root, point), ([whole(root, 1)], 0))
                self.assertEqual(exactly(passing_count(curve, root, point)), exactly(0))

    def test_points_of_the_document(self):
        # (t t - 1, t t t - t, 1) passes (0, 0) twice, by t t - 1; (t t, t t t, 1) too, by t t.
        self.assertEqual(passings(KNOT, [7, 1], [NOUGHT, NOUGHT, ([3], 4)]), ([([-1], 1), NOUGHT, ONE], 0))
        self.assertEqual(passings(CUSP, [7, 1], [NOUGHT, NOUGHT, ([3], 4)]), ([NOUGHT, NOUGHT, ONE], 0))
        self.assertEqual((drawn(TWICE), equation(TWICE)), (2, ([[0, -1], [], [1]], 2)))
        self.assertEqual(passings(CIRCLE, [0, 1], [ONE, NOUGHT, ([-1], 1)]), ([ONE], 1))


class ConventionsTest(unittest.TestCase):

    def test_parameters(self):
        for function in (passings, passing_count):
            check_parameters(self, function, [("curve", CIRCLE, NOT_CURVES, InvalidCurve),
                                              ("root", [0, 1], NOT_ROOTS, InvalidRoot),
                                              ("point", [ONE, NOUGHT, ONE], not_points(1), InvalidPoint)])

    def test_points_over_greater_roots(self):
        for root in SMALL:
            for wrong in not_points(len(root) - 1):
                refused_value(self, InvalidPoint, wrong, passings, CUSP, root, wrong)
                refused_value(self, InvalidPoint, wrong, passing_count, CUSP, root, wrong)
        # A point over a root of another degree.
        wrong = [([1, 0], 1)] * 3
        refused_value(self, InvalidPoint, wrong, passings, CUSP, [0, 1], wrong)
        self.assertEqual(passing_count(CUSP, [-2, 0, 1], wrong), 1)

    def test_what_is_passed_stays_and_what_is_returned_is_new(self):
        dice = Dice(163)
        for curve in CURVES:
            for root in SMALL[::2]:
                for point in some_points(dice, root, curve)[::3]:
                    for function in (passings, passing_count):
                        wanted = check_call(self, function, [curve, root, point])
                        given = [as_tuples(part) for part in (curve, root, point)]
                        self.assertEqual(check_call(self, function, given), wanted)


if __name__ == "__main__":
    unittest.main()
