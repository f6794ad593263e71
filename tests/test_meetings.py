"""Meetings of curves and forms: plain parts, infinite time, what is refused."""

import unittest

from curvepieces.curves import by_time, curve_degree, point_after, point_at
from curvepieces.equations import equation, lies_on
from curvepieces.errors import InvalidCurve, InvalidForm, LiesOn
from curvepieces.lineparts import plain_parts
from curvepieces.meetings import meetings
from tests import plain
from tests.support import (NOT_CURVES, NOT_FORMS, Dice, as_tuples, check_call, check_parameters, exactly, refused,
                           refused_limit)
from tests.test_curves import CIRCLE, CURVES, STRAIGHT
from tests.test_equations import ALL, BEND, TWICE, at_point, put_into


def mixed_forms(seed, curve, many):
    """Forms of so many letters, mixed, on which the curve does not lie."""
    dice, found = Dice(seed), []
    while len(found) < many:
        letters = dice.roll(0, 12 // curve_degree(curve))
        letters = min(letters, 8)
        terms = {(i, j): dice.roll(-3, 3) for i in range(letters + 1) for j in range(letters + 1 - i)
                 if dice.roll(0, 1)}
        if any(terms.values()):
            form = (plain.gathered(terms), letters)
            if put_into(form, curve):
                found.append(form)
    return found


class MeetingsTest(unittest.TestCase):

    def check(self, curve, form):
        """All that the document says of what is told; what was told."""
        told = meetings(curve, form)
        parts, infinite = told
        self.assertEqual((told.__class__, parts.__class__, infinite.__class__), (tuple, list, int))
        line = put_into(form, curve)
        every = curve_degree(curve) * form[1]
        self.assertEqual(infinite, every - (len(line) - 1))
        self.assertEqual(sum((len(part) - 1) * often for part, often in parts) + infinite, every)
        product = plain.times_all([part for part, often in parts for _ in range(often)])
        self.assertEqual(plain.plain_line_of(line), product)
        self.assertEqual(exactly(parts), exactly(plain_parts(line)))
        return told

    def test_mixed(self):
        seen = set()
        for at, curve in enumerate(ALL):
            for form in mixed_forms(150 + at, curve, 6):
                parts, infinite = self.check(curve, form)
                seen.add((max([often for _, often in parts], default=0), min(infinite, 3)))
                self.assertEqual(meetings(form=as_tuples(form), curve=as_tuples(curve)), (parts, infinite))
        self.assertTrue({(0, 0), (1, 0), (2, 0), (3, 0), (1, 1), (2, 1), (1, 2), (1, 3)} <= seen, seen)

    def test_the_roots_are_the_meetings(self):
        for at, curve in enumerate(ALL):
            for form in mixed_forms(250 + at, curve, 3):
                parts, infinite = meetings(curve, form)
                for time in range(-6, 7):
                    root = any(plain.value(part, time) == 0 for part, _ in parts)
                    self.assertEqual(at_point(form, point_at(curve, time)) == 0, root)
                self.assertEqual(at_point(form, point_after(curve)) == 0, infinite > 0)

    def test_another_time(self):
        for form in (([[], [1]], 1), ([[1]], 1), ([[-1, 1], [2]], 1), ([[3, 0, 1], [], [1]], 2)):
            line = put_into(form, by_time(CIRCLE, [2, 0, 3]))
            told = self.check(by_time(CIRCLE, [2, 0, 3]), form)
            self.assertEqual(told[1], 2 * meetings(CIRCLE, form)[1])
            self.assertEqual(len(line) - 1, sum((len(part) - 1) * often for part, often in told[0]))

    def test_told_ones(self):
        self.assertEqual(exactly(meetings(CIRCLE, ([[], [1]], 1))), exactly(([([-1, 0, 1], 1)], 0)))
        self.assertEqual(meetings(CIRCLE, ([[1]], 1)), ([([1, 0, 1], 1)], 0))
        self.assertEqual(meetings(BEND, ([[0, 1]], 1)), ([([0, 1], 2)], 0))
        self.assertEqual(meetings(BEND, ([[-1, 1]], 2)), ([([-1, 0, 1], 1)], 2))
        self.assertEqual(meetings(TWICE, ([[0, 0, 1], [0, 1]], 2)), ([([0, 1], 6), ([1, 0, 1], 1)], 0))

    def test_at_infinite_time_alone_and_not_at_all(self):
        self.assertEqual(meetings(BEND, ([[1]], 1)), ([], 2))
        self.assertEqual(meetings(BEND, ([[1]], 6)), ([], 12))
        self.assertEqual(meetings([[1], [], [0, 0, 0, 0, 0, 1]], ([[], [], [1]], 2)), ([], 10))
        self.assertEqual(meetings([[1], [], [0, 0, 0, 0, 0, 1]], ([[], [1]], 2)), ([([0, 1], 5)], 5))
        self.assertEqual(meetings([[0, 1], [1], []], ([[], [1]], 1)), ([([0, 1], 1)], 0))
        self.assertEqual(meetings([[0, 1], [1], []], ([[0, 1]], 1)), ([], 1))
        # A form of no letters is met nowhere.
        for curve in CURVES:
            self.assertEqual(exactly(meetings(curve, ([[-6]], 0))), exactly(([], 0)))

    def test_on_it(self):
        for curve in ALL:
            plane, many = equation(curve)
            for more in range(0, 9 - many):
                refused(self, LiesOn, meetings, curve, (plane, many + more))
                refused(self, LiesOn, meetings, form=(plane, many + more), curve=as_tuples(curve))
        # Also where it would be too many.
        straight = [[0, 0, 0, 0, 0, 1], [0, 0, 0, 0, 0, 3], [1]]
        self.assertIs(lies_on(straight, ([[0, -1], [3]], 8)), True)
        refused(self, LiesOn, meetings, straight, ([[0, -1], [3]], 8))

    def test_too_many(self):
        for curve in ALL:
            size = curve_degree(curve)
            for many in range(9):
                form = ([[1, 1], [7]], many) if many else ([[1]], many)
                if lies_on(curve, form):
                    continue
                if size * many > 12:
                    refused_limit(self, "degree", 12, meetings, curve, form)
                    refused_limit(self, "degree", 12, meetings, form=form, curve=curve)
                else:
                    self.check(curve, form)
        # Just 12, and 13 or more, whatever degree is left.
        self.check(BEND, ([[2, 1], [1]], 6))
        refused_limit(self, "degree", 12, meetings, BEND, ([[2, 1], [1]], 7))
        refused_limit(self, "degree", 12, meetings, BEND, ([[1]], 7))
        self.check(STRAIGHT, ([[2, 1], [1]], 8))
        four, five = [[0, 0, 0, 0, 1], [0, 1], [1]], [[0, 0, 0, 0, 0, 1], [0, 1], [1]]
        self.check(four, ([[5]], 3))
        refused_limit(self, "degree", 12, meetings, four, ([[5]], 4))
        self.check(five, ([[5]], 2))
        refused_limit(self, "degree", 12, meetings, five, ([[5]], 3))
        three = [[0, 0, 0, 1], [0, 1], [1]]
        self.check(three, ([[], [], [], [], [1]], 4))
        refused_limit(self, "degree", 12, meetings, three, ([[], [], [], [], [1]], 5))


class ConventionsTest(unittest.TestCase):

    def test_parameters(self):
        check_parameters(self, meetings, [("curve", CIRCLE, NOT_CURVES, InvalidCurve),
                                          ("form", ([[], [1]], 1), NOT_FORMS, InvalidForm)])

    def test_what_is_passed_stays_and_what_is_returned_is_new(self):
        for curve in CURVES:
            for form in (([[], [1]], 2), ([[7, 1], [-2]], 2), ([[5]], 0), ([[5]], 2)):
                if not lies_on(curve, form):
                    wanted = check_call(self, meetings, [curve, form])
                    self.assertEqual(check_call(self, meetings, [as_tuples(curve), as_tuples(form)]), wanted)


if __name__ == "__main__":
    unittest.main()
