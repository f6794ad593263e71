"""Lines: what they are, sums and products, values and slopes, division, common parts, resultants."""

import unittest
from fractions import Fraction
from itertools import product
from math import gcd, lcm

from curvepieces.errors import InvalidLine, InvalidNumber, ZeroLine
from curvepieces.lines import (degree, is_line, line_common, line_divided, line_less, line_slope, line_sum, line_times,
                               line_value, plain_line, resultant)
from curvepieces.polys import poly_quotient
from tests import plain
from tests.support import (NOT_INTEGERS, NOT_LINES, Dice, as_tuples, check_call, check_judge, check_parameters,
                           refused, refused_limit)

FULL = [3, 0, -1, 4, 1, -5, 9, 2, -6, 5, 3, 5, -8]
EDGES = [[], [1], [-1], [6], [-4], [0, 1], [0, -3], [5, 1], [-2, 0, 1], [1, 2, 1], [4, 0, -6], [0, 0, 0, 2], FULL,
         [0] * 12 + [7], [-x for x in FULL]]

ONE_LINE = [degree, line_slope, plain_line]
TWO_LINES = [line_sum, line_less, line_times, line_divided, line_common, resultant]


def mixed(seed, many=60, degrees=6, most=9):
    """Pairs of lines of all kinds of degrees."""
    dice = Dice(seed)
    return [(dice.line(dice.roll(-1, degrees), most), dice.line(dice.roll(-1, degrees), most)) for _ in range(many)]


class IsLineTest(unittest.TestCase):

    def test_lines(self):
        for line in EDGES:
            self.assertIs(is_line(line), True)
            self.assertIs(is_line(tuple(line)), True)
        self.assertIs(is_line(value=[0, 0, 10 ** 29]), True)

    def test_none(self):
        check_judge(self, is_line, NOT_LINES)
        for value in NOT_LINES:
            self.assertIs(is_line(value), False, value)

    def test_the_greatest_degree_is_twelve(self):
        for size in range(1, 30):
            self.assertIs(is_line([0] * (size - 1) + [1]), size <= 13)
            self.assertIs(is_line((1,) * size), size <= 13)

    def test_the_last_number_is_not_nought(self):
        for size in range(1, 14):
            self.assertIs(is_line([1] * (size - 1) + [0]), False)


class OneLineTest(unittest.TestCase):

    def test_degree(self):
        self.assertEqual([degree(line) for line in ([], [4], [0, 1], FULL)], [-1, 0, 1, 12])

    def test_value(self):
        for line in EDGES:
            for number in [0, 1, -1, 2, -3, 10, 999999, -10 ** 29]:
                self.assertEqual(line_value(line, number), plain.value(line, number))
        self.assertEqual(line_value([], 5), 0)
        self.assertIs(line_value([], 5).__class__, int)

    def test_slope(self):
        self.assertEqual(line_slope([]), [])
        self.assertEqual(line_slope([9]), [])
        self.assertEqual(line_slope([1, 2, 3, 4]), [2, 6, 12])
        for line in EDGES:
            self.assertEqual(line_slope(line), plain.slope(line))

    def test_plain(self):
        self.assertEqual(plain_line([]), [])
        self.assertEqual(plain_line([-6]), [1])
        self.assertEqual(plain_line([0, 4, -6]), [0, -2, 3])
        self.assertEqual(plain_line([7, 14, 21]), [1, 2, 3])
        for line in EDGES[1:]:
            for factor in (1, -1, 6, -35, 10 ** 29):
                told = plain_line([factor * number for number in line])
                self.assertGreater(told[-1], 0)
                self.assertEqual(gcd(*told), 1)
                self.assertEqual([a * line[-1] for a in told], [a * told[-1] for a in line])
                self.assertEqual(plain_line(told), told)


class SumsAndProductsTest(unittest.TestCase):

    def test_values_add_and_multiply(self):
        for one, two in mixed(2) + list(product(EDGES, EDGES)):
            added, less = line_sum(one, two), line_less(one, two)
            for told in (added, less):
                self.assertIs(is_line(told), True)
            for place in range(-7, 8):
                first, second = plain.value(one, place), plain.value(two, place)
                self.assertEqual(plain.value(added, place), first + second)
                self.assertEqual(plain.value(less, place), first - second)
            if len(one) + len(two) <= 14:
                self.assertEqual(line_times(one, two), plain.times(one, two))

    def test_noughts_at_the_end_go(self):
        self.assertEqual(line_sum([1, 2, 3], [0, -2, -3]), [1])
        self.assertEqual(line_sum([1, 2], [-1, -2]), [])
        self.assertEqual(line_less([1, 0, 3], [0, 0, 3]), [1])
        self.assertEqual(line_less(FULL, FULL), [])

    def test_with_nought(self):
        for line in EDGES:
            self.assertEqual(line_sum(line, []), line)
            self.assertEqual(line_sum([], line), line)
            self.assertEqual(line_less(line, []), line)
            self.assertEqual(line_less([], line), [-number for number in line])
            self.assertEqual(line_times(line, []), [])
            self.assertEqual(line_times([], line), [])

    def test_the_degree_of_a_product_is_at_most_twelve(self):
        for m in range(0, 13):
            for n in range(0, 13):
                one, two = [1] * m + [2], [0] * n + [-3]
                if m + n <= 12:
                    self.assertEqual(line_times(one, two), plain.times(one, two))
                else:
                    refused_limit(self, "degree", 12, line_times, one, two)
                    refused_limit(self, "degree", 12, line_times, line=tuple(one), other=tuple(two))


class DivisionTest(unittest.TestCase):

    def check(self, one, two):
        least, quotient, rest = line_divided(one, two)
        self.assertIs(least.__class__, int)
        wanted, _ = plain.divided(one, two)
        # The least number is told by the quotient's fractions, and the rest has INTEGERS then by itself.
        self.assertEqual(least, lcm(*[Fraction(part).denominator for part in wanted]))
        self.assertEqual(quotient, [least * part for part in wanted])
        self.assertEqual(plain.plus(plain.times(quotient, two), rest), [least * number for number in one])
        self.assertLess(len(rest), len(two))
        self.assertTrue(is_line(rest) and is_line(quotient))

    def test_mixed(self):
        for one, two in mixed(3, 150) + mixed(4, 50, 12, 999999):
            if two:
                self.check(one, two)

    def test_edges(self):
        for one, two in product(EDGES, EDGES):
            if two:
                self.check(one, two)

    def test_told_ones(self):
        self.assertEqual(line_divided([0, 0, 1], [0, 2]), (2, [0, 1], []))
        self.assertEqual(line_divided([2, 4], [2]), (1, [1, 2], []))
        self.assertEqual(line_divided([3, 4], [2]), (2, [3, 4], []))
        self.assertEqual(line_divided([1, 1], [-2]), (2, [-1, -1], []))
        self.assertEqual(line_divided([], [5, 1]), (1, [], []))
        self.assertEqual(line_divided([7, 1], [1, 1, 1]), (1, [], [7, 1]))
        # On the way more than the least number is multiplied by.
        self.assertEqual(line_divided([0, 0, 0, 8], [1, 2]), (1, [1, -2, 4], [-1]))

    def test_by_nought(self):
        for line in EDGES:
            refused(self, ZeroLine, line_divided, line, [])
            refused(self, ZeroLine, line_divided, line=line, other=())


class QuotientTest(unittest.TestCase):
    """What other files divide by: it is told only where it has INTEGERS alone and no rest is left."""

    def test_products_alone(self):
        for one, two in mixed(10):
            if two:
                both = plain.times(one, two)
                self.assertEqual(poly_quotient(both, two), one)
                if len(two) > 1:
                    self.assertIsNone(poly_quotient(plain.plus(both, [1]), two))
                    self.assertIsNone(poly_quotient(two[:1] + [1], [0] + two))
        self.assertIsNone(poly_quotient([1], [2]))
        self.assertIsNone(poly_quotient([1, 2, 1], [2, 2]))
        self.assertEqual(poly_quotient([], [2, 2]), [])


class CommonPartTest(unittest.TestCase):

    def check(self, one, two):
        told = line_common(one, two)
        self.assertEqual(plain_line(told), told)
        for line in (one, two):
            self.assertEqual(plain.divided(line, told)[1], [])
        self.assertEqual(len(told) - 1, plain.common_degree(one, two))
        return told

    def test_mixed(self):
        for one, two in mixed(5, 100):
            if one or two:
                self.check(one, two)

    def test_told_parts(self):
        dice = Dice(6)
        for _ in range(60):
            part = dice.line(dice.roll(0, 4), 20)
            one, two = dice.line(dice.roll(0, 4), 20), dice.line(dice.roll(0, 4), 20)
            told = self.check(plain.times(one, part), plain.times(two, part))
            self.assertEqual(plain.divided(told, part)[1], [])
            if plain.common_degree(one, two) == 0:
                self.assertEqual(told, plain_line(part))

    def test_great_numbers(self):
        part = [999983, -2, 31, 700001]
        one, two = plain.times(part, [999979, 0, 3, -5, 1]), plain.times(part, [-1, 999961, 0, 0, 0, 888889])
        self.assertEqual(self.check(one, two), part)

    def test_with_nought(self):
        for line in EDGES:
            self.assertEqual(line_common(line, []), plain_line(line))
            self.assertEqual(line_common([], line), plain_line(line))
        self.assertEqual(line_common([], []), [])
        self.assertEqual(line_common([4], [6]), [1])
        self.assertEqual(line_common([4], []), [1])
        self.assertEqual(line_common([2, 2], [4]), [1])

    def test_double_roots(self):
        line = plain.times_all([[-1, 1]] * 3 + [[2, 1]] * 2 + [[5, 3], [1, 0, 1], [1, 0, 1]])
        self.assertEqual(line_common(line, line_slope(line)),
                         plain.times_all([[-1, 1], [-1, 1], [2, 1], [1, 0, 1]]))


class ResultantTest(unittest.TestCase):

    def test_sylvesters_table(self):
        # With few numbers but 0, 1 and -1 there are noughts in the way wherever one can be.
        small = [plain.cut(line) for line in product([-1, 0, 1], repeat=3)]
        small += [list(line) + [1] for line in product([0, 1], repeat=3)]
        for one, two in mixed(7, 40, 3) + list(product(small, small)):
            if one and two:
                m, n = len(one) - 1, len(two) - 1
                rows = [[0] * i + one[::-1] + [0] * (n - 1 - i) for i in range(n)]
                rows += [[0] * i + two[::-1] + [0] * (m - 1 - i) for i in range(m)]
                self.assertEqual(resultant(one, two), plain.determinant(rows), (one, two))

    def test_values_at_told_roots(self):
        dice = Dice(8)
        for _ in range(60):
            roots = [dice.roll(-5, 5) for _ in range(dice.roll(0, 6))]
            last, other = dice.roll(1, 4), dice.line(dice.roll(0, 6), 9)
            line = [last * number for number in plain.times_all([[-root, 1] for root in roots])]
            wanted = last ** (len(other) - 1)
            for root in roots:
                wanted *= plain.value(other, root)
            self.assertEqual(resultant(line, other), wanted)

    def test_the_other_way_about(self):
        for one, two in mixed(9, 80):
            if one and two:
                odd = (len(one) - 1) * (len(two) - 1) % 2
                self.assertEqual(resultant(two, one), -resultant(one, two) if odd else resultant(one, two))
                self.assertEqual(resultant(one, two) == 0, plain.common_degree(one, two) > 0)

    def test_noughts_on_the_way(self):
        self.assertEqual(resultant([1, 0, 0, 1], [1, 0, 0, 2]), -1)
        self.assertEqual(resultant([0, 0, 1], [1, 0, 1]), 1)
        self.assertEqual(resultant([0, 1], [0, 1]), 0)
        self.assertEqual(resultant([0] * 12 + [1], [1] + [0] * 11 + [1]), 1)

    def test_degrees_of_nought(self):
        self.assertEqual(resultant([3], [-5]), 1)
        self.assertEqual(resultant([-3], [1, 0, 0, 7]), -27)
        self.assertEqual(resultant([1, 0, 0, 7], [-3]), -27)

    def test_of_nought(self):
        for line in EDGES:
            refused(self, ZeroLine, resultant, line, [])
            refused(self, ZeroLine, resultant, [], line)


class ConventionsTest(unittest.TestCase):

    def test_refused(self):
        for function in ONE_LINE:
            check_parameters(self, function, [("line", [1, 2], NOT_LINES, InvalidLine)])
        for function in TWO_LINES:
            check_parameters(self, function, [("line", [1, 2], NOT_LINES, InvalidLine),
                                              ("other", (0, 1), NOT_LINES, InvalidLine)])
        check_parameters(self, line_value, [("line", [1, 2], NOT_LINES, InvalidLine),
                                            ("number", -3, NOT_INTEGERS, InvalidNumber)])

    def test_what_no_parameter_is_told_for_comes_last(self):
        for function in (line_divided, resultant):
            check_parameters(self, function, [("line", [], NOT_LINES, InvalidLine),
                                              ("other", [], NOT_LINES, InvalidLine)])
        check_parameters(self, line_times, [("line", FULL, NOT_LINES, InvalidLine),
                                            ("other", FULL, NOT_LINES, InvalidLine)])

    def test_what_is_passed_stays_and_what_is_returned_is_new(self):
        for line in EDGES:
            for function in ONE_LINE:
                check_call(self, function, [line])
            check_call(self, line_value, [line, 3])
        for one, two in product(EDGES[1:9], EDGES[1:9]):
            for function in TWO_LINES:
                check_call(self, function, [one, two])
        for function in (line_sum, line_less, line_common, line_divided, resultant):
            same = [1, -3, 2]
            check_call(self, function, [same, same])
        for function in (line_sum, line_less, line_times, line_common):
            check_call(self, function, [[], [1, 2]])
            check_call(self, function, [[1, 2], []])

    def test_tuples_for_lists(self):
        for line in EDGES:
            for function in ONE_LINE:
                self.assertEqual(check_call(self, function, [tuple(line)]), function(line))
            self.assertEqual(line_value(tuple(line), 2), line_value(line, 2))
        for one, two in product(EDGES[1:9], EDGES[1:9]):
            for function in TWO_LINES:
                wanted = function(one, two)
                self.assertEqual(check_call(self, function, [as_tuples(one), two]), wanted)
                self.assertEqual(check_call(self, function, [one, as_tuples(two)]), wanted)
                self.assertEqual(function(other=as_tuples(two), line=as_tuples(one)), wanted)


if __name__ == "__main__":
    unittest.main()
