"""Forms, equations of curves, how often a curve is drawn, lying on a form."""

import unittest
from fractions import Fraction

from curvepieces.curves import by_time, curve_degree, point_after, point_at
from curvepieces.equations import drawn, equation, is_form, lies_on
from curvepieces.errors import InvalidCurve, InvalidForm
from curvepieces.followers import follower_degrees, followers
from curvepieces.planes import plain_plane
from curvepieces.slopes import piece_count
from tests import plain
from tests.support import (NOT_CURVES, NOT_FORMS, NOT_INTEGERS, NOT_PLANES, Dice, as_tuples, check_call, check_judge,
                           check_parameters, exactly, refused_value)
from tests.test_curves import CIRCLE, CURVES, CUSP, KNOT, STRAIGHT, mixed_curves

TWICE, BEND = [[0, 0, 1], [0, 0, 0, 0, 1], [1]], [[0, 1], [0, 0, 1], [1]]

# Curves that are drawn several times, and how often.
REPEATED = [(TWICE, 2), ([[0, 0, 1], [0, 0, 2], [1]], 2), (by_time(CIRCLE, [3, 0, 1]), 2),
            (by_time(BEND, [1, -5, 2]), 2),
            (by_time(STRAIGHT, [1, 2, 0, 3]), 3), (by_time(STRAIGHT, [0, 0, 0, 0, 7]), 4),
            (by_time(STRAIGHT, [1, 0, 0, 0, 0, -2]), 5), ([[1], [], [0, 0, 0, 0, 0, 1]], 5),
            # Not by a line in the place of the time, but by a quotient of two.
            ([[0, 1], [1, 0, 1], []], 2), ([[0, 0, 1], [1, 0, 2, 0, 1], [0, 1, 0, 1]], 2),
            ([[0, 1, 0, 0, 1], [1], [0, 1, 0, 0, 1]], 4), ([[1, 0, 0, 1], [0, 1], [1, 3, 0, 1]], 3)]

ALL = CURVES + [curve for curve, _ in REPEATED] + mixed_curves(140, 30)


def at_point(form, point):
    """What comes when three numbers are put into a form."""
    plane, many = form
    x, y, w = point
    return sum(number * x ** i * y ** j * w ** (many - i - j) for (i, j), number in plain.spread(plane).items())


def put_into(form, curve):
    """The line that comes when the curve's lines are put into a form."""
    plane, many = form
    total = []
    for (i, j), number in plain.spread(plane).items():
        total = plain.plus(total, plain.times_all([curve[0]] * i + [curve[1]] * j + [curve[2]] * (many - i - j) +
                                                  [[number]]))
    return total


def forms_on(curve, many):
    """How many forms of so many letters are free and lie on the curve."""
    pairs = [(i, j) for i in range(many + 1) for j in range(many + 1 - i)]
    columns = [put_into((plain.gathered({pair: 1}), many), curve) for pair in pairs]
    size = max(len(column) for column in columns)
    rows = [[(column + [0] * size)[at] for column in columns] for at in range(size)]
    return len(pairs) - len(plain.bound(rows, len(pairs)))


def resultant_at(curve, pair, point):
    """Sylvester's determinant of both followers' lines times the point's numbers, added, in the pair's degrees."""
    first, second = [[sum(number * (line + [0] * 6)[power] for number, line in zip(point, follower))
                      for power in range(size + 1)] for follower, size in zip(pair, follower_degrees(curve))]
    m, n = len(first) - 1, len(second) - 1
    rows = [[0] * i + first[::-1] + [0] * (n - 1 - i) for i in range(n)]
    rows += [[0] * i + second[::-1] + [0] * (m - 1 - i) for i in range(m)]
    return plain.fraction_determinant(rows)


def leading_times(curve, time):
    """How many times, infinite time among them, lead to the point of the time, by words."""
    a, b, c = [plain.cut(line) for line in curve]
    x, y, w = [plain.value(line, time) for line in curve]
    lines = [plain.plus(plain.times(b, [w] if w else []), plain.times(c, [-y] if y else [])),
             plain.plus(plain.times(c, [x] if x else []), plain.times(a, [-w] if w else [])),
             plain.plus(plain.times(a, [y] if y else []), plain.times(b, [-x] if x else []))]
    common = []
    for line in lines:
        one, two = common, line
        while two:
            one, two = two, plain.divided(one, two)[1]
        common = one
    return len(common) - 1 + curve_degree(curve) - (max(len(line) for line in lines) - 1)


class FormTest(unittest.TestCase):

    def test_forms(self):
        for value in (([[0, 1]], 1), ([[1]], 0), ([[-7]], 0), ([[1]], 1), ([[5]], 8), ([[], [1]], 1),
                      ([[0, 0, -2], [], [1]], 2),
                      ([[0] * 8 + [1]], 8), ([[]] * 8 + [[1]], 8), ([[0, 0, 1], [0, 1], [1]], 7),
                      ([[], [], [], [], [0, 0, 0, 0, 3]], 8), ([[1, 2, 3], [4, 5], [6]], 2)):
            self.assertIs(is_form(value), True, value)
            self.assertIs(is_form(value=as_tuples(value)), True)
            self.assertIs(is_form((tuple(value[0]), value[1])), True)
            self.assertIs(is_form(list(value)), False)
            self.assertIs(is_form(value[::-1]), False)

    def test_the_greatest_sum_of_powers(self):
        dice = Dice(141)
        for _ in range(150):
            plane = dice.plane(dice.roll(0, 6), dice.roll(0, 6), 3)
            top = max(i + j for i, j in plain.spread(plane))
            for many in range(-1, 14):
                self.assertIs(is_form((plane, many)), top <= many <= 8, (plane, many))

    def test_noughts_do_not_count(self):
        # The number at (1, 2) is there but 0.
        self.assertIs(is_form(([[0, 0, 1], [1, 0, 0, 1]], 3)), False)
        self.assertIs(is_form(([[0, 0, 1], [1, 0, 0, 1]], 4)), True)
        self.assertIs(is_form(([[0, 0, 0, 1], [0, 0, 1], [0, 1]], 3)), True)

    def test_bounds(self):
        self.assertEqual([is_form(([[1]], many)) for many in (-1, 0, 1, 7, 8, 9, 10 ** 29)],
                         [False, True, True, True, True, False, False])
        self.assertEqual([is_form(([[], [1]], many)) for many in (0, 1, 8, 9)], [False, True, True, False])
        self.assertEqual([is_form(([[0] * 8 + [1], [1]], many)) for many in (7, 8, 9)], [False, True, False])
        self.assertEqual([is_form(([[0] * 8 + [1], [0] * 8 + [1]], many)) for many in (7, 8, 9)], [False] * 3)

    def test_any_value(self):
        wrong = NOT_FORMS + [(value, 8) for value in NOT_PLANES] + [([[1]], value) for value in NOT_INTEGERS]
        check_judge(self, is_form, wrong)
        for value in wrong:
            self.assertIs(is_form(value), False, value)


class EquationTest(unittest.TestCase):

    def test_it_is_a_plain_form(self):
        for curve in ALL:
            told = equation(curve)
            self.assertEqual((told.__class__, told[0].__class__, told[1].__class__), (tuple, list, int))
            self.assertIs(is_form(told), True)
            self.assertEqual(exactly(told[0]), exactly(plain_plane(told[0])))
            self.assertEqual(equation(curve=as_tuples(curve)), told)

    def test_the_points_are_on_it(self):
        for curve in ALL:
            form = equation(curve)
            for time in (0, 1, -1, 2, -3, 7, 50):
                self.assertEqual(at_point(form, point_at(curve, time)), 0)
            self.assertEqual(at_point(form, point_after(curve)), 0)
            self.assertEqual(put_into(form, curve), [])

    def test_no_lesser_one_and_no_other_one(self):
        for curve in ALL:
            many = equation(curve)[1]
            self.assertEqual([forms_on(curve, lesser) for lesser in range(many + 1)], [0] * many + [1], curve)

    def test_times_how_often_it_is_drawn(self):
        for curve in ALL:
            self.assertEqual(equation(curve)[1] * drawn(curve), curve_degree(curve))

    def test_it_is_one_piece(self):
        for curve in ALL:
            plane, many = equation(curve)
            # One piece with x in it, and of degrees that have a table.
            if len(plane) > 1 and many <= 4:
                self.assertEqual(piece_count(plane), 1)

    def test_the_resultant_by_a_pair(self):
        dice = Dice(142)
        for curve in ALL:
            form, often = equation(curve), drawn(curve)
            first, second = followers(curve)
            made = [plain.plus(plain.times([3], b), plain.times([-2, 5], a)) for a, b in zip(first, second)]
            pairs = [(first, second)]
            if follower_degrees(curve)[1] > follower_degrees(curve)[0]:
                pairs.append((first, made))
            for pair in pairs:
                factors = set()
                for _ in range(6):
                    point = [dice.roll(-9, 9) for _ in range(3)]
                    value, told = at_point(form, point) ** often, resultant_at(curve, pair, point)
                    self.assertEqual(told == 0, value == 0)
                    if value:
                        factors.add(Fraction(told, value))
                self.assertLessEqual(len(factors), 1)

    def test_drawn_by_another_time(self):
        dice = Dice(143)
        for curve in ALL:
            for size in range(1, 5 // curve_degree(curve) + 1):
                led = by_time(curve, dice.line(size, 9))
                self.assertEqual(exactly(equation(led)), exactly(equation(curve)))
                self.assertEqual(drawn(led), size * drawn(curve))

    def test_of_multiples_it_is_the_same(self):
        for curve in ALL:
            for factor in (-1, 6):
                self.assertEqual(equation([plain.times([factor], line) for line in curve]), equation(curve))

    def test_straight_lines(self):
        self.assertEqual(equation([[0, 1], [1], []]), ([[1]], 1))
        self.assertEqual(equation([[1, 0, 1], [0, 0, 0, 0, 1], []]), ([[1]], 1))
        self.assertEqual(equation([[], [0, 1], [1]]), ([[], [1]], 1))
        self.assertEqual(equation([[0, 1], [], [1]]), ([[0, 1]], 1))
        self.assertEqual(equation([[2, -4], [], [0, 0, 0, -5]]), ([[0, 1]], 1))
        self.assertEqual(equation(STRAIGHT), ([[-1, 1]], 1))
        self.assertEqual(equation([[3], [5, 1], [1]]), ([[-3], [1]], 1))
        self.assertEqual(equation([[0, 0, 1], [0, 0, 2], [1]]), ([[0, -1], [2]], 1))
        self.assertEqual(equation([[1, 0, 0, 0, 0, 1], [0, 1], [1, 1, 0, 0, 0, 1]]), ([[-1, 1], [1]], 1))

    def test_told_ones(self):
        self.assertEqual(exactly(equation(CIRCLE)), exactly(([[-1, 0, 1], [], [1]], 2)))
        self.assertEqual(equation(BEND), ([[0, -1], [], [1]], 2))
        self.assertEqual(equation(TWICE), ([[0, -1], [], [1]], 2))
        self.assertEqual(equation(CUSP), ([[0, 0, -1], [], [], [1]], 3))
        # y y w less x x x less x x w.
        self.assertEqual(equation(KNOT), ([[0, 0, -1], [], [1], [1]], 3))
        self.assertEqual(equation([[0, 0, 0, 1], [0, 1], [1]]), ([[0, 0, 0, -1], [1]], 3))
        self.assertEqual(equation([[1], [0, 1], [0, 0, 0, 0, 0, 1]]), ([[0, 0, 0, 0, 0, -1], [], [], [], [1]], 5))
        self.assertEqual(equation([[0, 1], [0, 0, 0, 0, 0, 7], [2]]), ([[0, -1], [], [], [], [], [112]], 5))


class DrawnTest(unittest.TestCase):

    def test_repeated_ones(self):
        for curve, often in REPEATED:
            self.assertEqual(exactly(drawn(curve=curve)), exactly(often), curve)
            self.assertEqual(equation(curve)[1] * often, curve_degree(curve))

    def test_how_many_times_lead_to_points(self):
        # To some points more times lead, so the least of several counts.
        for curve in ALL:
            self.assertEqual(drawn(curve), min(leading_times(curve, time) for time in range(-3, 23)), curve)

    def test_once(self):
        for curve in (CIRCLE, CUSP, KNOT, STRAIGHT, BEND):
            self.assertEqual(drawn(curve), 1)
        self.assertEqual({drawn(curve) for curve in ALL}, {1, 2, 3, 4, 5})


class LyingTest(unittest.TestCase):

    def test_the_equation_and_its_multiples(self):
        dice = Dice(144)
        for curve in ALL:
            plane, many = equation(curve)
            self.assertIs(lies_on(curve, (plane, many)), True)
            self.assertIs(lies_on(form=as_tuples((plane, many)), curve=as_tuples(curve)), True)
            for more in range(1, 9 - many):
                # The same plane with more letters has w as a factor.
                self.assertIs(lies_on(curve, (plane, many + more)), True)
            for more in range(4):
                terms = {(i, j): dice.roll(-4, 4) for i in range(more + 1) for j in range(more + 1 - i)}
                terms[dice.roll(0, more), 0] = 7
                multiple = plain.product(plane, plain.gathered(terms))
                self.assertIs(lies_on(curve, (multiple, many + more)), True)

    def test_by_words(self):
        dice, seen = Dice(145), []
        for curve in ALL:
            plane, many = equation(curve)
            for _ in range(4):
                terms = {key: number for key, number in plain.spread(plane).items()}
                top = dice.roll(many, 5)
                i = dice.roll(0, top)
                terms[i, dice.roll(0, top - i)] = dice.roll(-3, 3)
                if any(terms.values()):
                    form = (plain.gathered(terms), top)
                    told = lies_on(curve, form)
                    self.assertIs(told, put_into(form, curve) == [])
                    seen.append(told)
        self.assertGreater(min(seen.count(True), seen.count(False)), 15)

    def test_just_then_the_equation_goes_in(self):
        dice = Dice(146)
        for curve in ALL:
            plane, many = equation(curve)
            for _ in range(3):
                terms = {(i, j): dice.roll(-2, 2) for i in range(many + 1) for j in range(many + 1 - i)}
                terms[0, 0] = 3
                form = (plain.gathered(terms), many)
                self.assertIs(lies_on(curve, form), plain.plain_of(form[0]) == plane)

    def test_told_ones(self):
        self.assertIs(lies_on(CIRCLE, ([[-2, 0, 2], [], [2]], 2)), True)
        self.assertIs(lies_on(CIRCLE, ([[-1, 0, 1], [], [1]], 3)), True)
        self.assertIs(lies_on(BEND, ([[1]], 1)), False)
        self.assertIs(lies_on(BEND, ([[1]], 0)), False)
        self.assertIs(lies_on([[0, 1], [1], []], ([[1]], 1)), True)
        self.assertIs(lies_on([[0, 1], [1], []], ([[1]], 8)), True)
        self.assertIs(lies_on([[0, 1], [1], []], ([[1]], 0)), False)
        self.assertIs(lies_on([[0, 1], [1], []], ([[], [1]], 1)), False)
        self.assertIs(lies_on([[0, 1], [1], []], ([[], [1]], 2)), True)
        # y y w - x x x, and x x x x - y y x w that has it as a factor.
        self.assertIs(lies_on(CUSP, ([[], [0, 0, -1], [], [], [1]], 4)), True)
        self.assertIs(lies_on(CUSP, ([[], [0, 0, -1], [], [], [1]], 5)), True)
        self.assertIs(lies_on(CUSP, ([[], [0, 0, 1], [], [], [1]], 4)), False)

    def test_great_ones(self):
        # Forms and curves of the greatest degrees: 40 together.
        curve = [[0, 0, 0, 0, 0, 999999], [1, 2, 3, 4, 5, 6], [7]]
        self.assertIs(lies_on(curve, ([[1]] + [[]] * 7 + [[999999]], 8)), False)
        self.assertIs(lies_on(curve, ([[0] * 8 + [1]], 8)), False)
        straight = [[0, 0, 0, 0, 0, 1], [0, 0, 0, 0, 0, 3], [1]]
        self.assertIs(lies_on(straight, plain_form([[0, -1], [3]], 8)), True)


def plain_form(plane, many):
    """The form of a plane to the power of so many."""
    return plain.product(*[plane] * many), many


class ConventionsTest(unittest.TestCase):

    def test_parameters(self):
        curve = ("curve", CIRCLE, NOT_CURVES, InvalidCurve)
        check_parameters(self, equation, [curve])
        check_parameters(self, drawn, [curve])
        check_parameters(self, lies_on, [curve, ("form", ([[0, 1]], 1), NOT_FORMS, InvalidForm)])

    def test_wrong_planes_and_counts_in_forms(self):
        for value in NOT_PLANES + [[]]:
            wrong = (value, 8)
            refused_value(self, InvalidForm, wrong, lies_on, CIRCLE, wrong)
        for value in NOT_INTEGERS + [-1, 1, 9, 10 ** 29]:
            wrong = ([[0, 0, 1]], value)
            refused_value(self, InvalidForm, wrong, lies_on, CIRCLE, wrong)

    def test_what_is_passed_stays_and_what_is_returned_is_new(self):
        for curve in ALL[::2]:
            for function, given in ((equation, [curve]), (drawn, [curve]), (is_form, [([[0, 1], [2]], 3)]),
                                    (lies_on, [curve, ([[0, 1], [2]], 3)]), (lies_on, [curve, equation(curve)])):
                wanted = check_call(self, function, given)
                self.assertEqual(check_call(self, function, [as_tuples(part) for part in given]), wanted)


if __name__ == "__main__":
    unittest.main()
