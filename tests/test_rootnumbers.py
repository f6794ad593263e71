"""Roots, numbers over a root, sums, products, quotients, norms."""

import unittest
from fractions import Fraction
from itertools import product
from math import gcd

from curvepieces.errors import DividedByNought, InvalidRoot, InvalidValue
from curvepieces.lineparts import monic_parts
from curvepieces.rootnumbers import is_number, is_root, norm, root_over, root_plus, root_times
from tests import plain
from tests.support import (NOT_INTEGERS, NOT_LINES, NOT_ROOTS, STRANGE, Dice, as_tuples, check_call, check_judge,
                           check_parameters, exactly, refused, refused_value)

ROOTS = [[0, 1], [-3, 1], [5, 1], [-999983, 1], [-2, 0, 1], [1, 0, 1], [1, 1, 1], [8, 8, 1], [-999983, 0, 1],
         [-2, 0, 0, 1], [1, 1, 0, 1], [-1, -2, 1, 1], [5, -7, 3, 1], [1, 0, 0, 0, 1], [-2, 0, 0, 0, 1],
         [1, 0, -10, 0, 1], [1, 1, 1, 1, 1], [3, 1, 0, 0, 1], [10 ** 29 + 1, 0, 0, 7, 1]]

TWO_NUMBERS = [root_plus, root_times, root_over]


def not_over(size):
    """What is no number over a root of this degree."""
    one = [1] + [0] * (size - 1)
    return STRANGE + [0, 1, -7, [], (), one, (one,), (one, 1, 1), [one, 1], (tuple(one) * 2, 1), (one + [0], 1),
                      (one[:-1], 1), ([], 1), (one, 0), (one, -1), (one, True), (one, None), (one, "1"), (one, [1]),
                      ([True] + one[1:], 1), ([False] * size, 1), ([None] * size, 1), (["1"] * size, 1),
                      ([[1]] * size, 1), (one[0], 1), (1, one), ([0] * size, 2), ([0] * size, 0), ([2] * size, 2),
                      ([6] * size, 4), ([-3] * size, 9), ([0] * (size - 1) + [10], 15), ({0: 1}, 1), (set(one), 1),
                      ("1" * size, 1), (range(size), 1), (b"1" * size, 1), (([1] * size,), 1), "([1], 1)"]


def mixed(dice, root, most):
    """A number over the root with mixed INTEGERS."""
    numbers, bottom = [dice.roll(-most, most) for _ in root[1:]], dice.roll(1, most)
    divisor = gcd(bottom, *numbers)
    return [number // divisor for number in numbers], bottom // divisor


def whole(root, number):
    """The number over the root that is an INTEGER."""
    return [number] + [0] * (len(root) - 2), 1


def some(root):
    """Numbers over the root: nought, one, the root itself, some others."""
    dice = Dice(80 + len(root))
    itself = plain.over(root, [0, 1])
    return ([whole(root, number) for number in (0, 1, -1, 6)] + [([int(part) for part in itself], 1)] +
            [mixed(dice, root, 9) for _ in range(4)] + [mixed(dice, root, 999999) for _ in range(2)])


class Case(unittest.TestCase):

    def check_number(self, root, value):
        """It is told as the document wants."""
        self.assertEqual([part.__class__ for part in (value, *value)], [tuple, list, int])
        self.assertEqual({part.__class__ for part in value[0]}, {int})
        self.assertEqual((len(value), len(value[0])), (2, len(root) - 1))
        self.assertGreater(value[1], 0)
        self.assertEqual(gcd(value[1], *value[0]), 1)
        self.assertIs(is_number(root, value), True)


class RootTest(unittest.TestCase):

    def test_roots(self):
        self.assertEqual({len(root) - 1 for root in ROOTS}, {1, 2, 3, 4})
        for root in ROOTS:
            self.assertIs(is_root(root), True)
            self.assertIs(is_root(value=tuple(root)), True)

    def test_what_is_none(self):
        for value in NOT_ROOTS:
            self.assertIs(is_root(value), False, value)

    def test_products_of_lesser_ones(self):
        for one, two in product(ROOTS, ROOTS):
            both = plain.times(one, two)
            self.assertIs(is_root(both), False)
            if len(both) <= 5:
                self.assertEqual(monic_parts(both), sorted([one, two]))

    def test_products_of_two_of_degree_two(self):
        # None of these has an INTEGER root.
        for line in ([4, 0, 0, 0, 1], [1, 0, 1, 0, 1], [9, 0, 2, 0, 1], [4, 0, 3, 0, 1], [1, 2, 3, 2, 1],
                     [64, 0, 0, 0, 1], [6, 0, -5, 0, 1], [999983 * 999979, 0, -999983 - 999979, 0, 1]):
            self.assertIs(is_root(line), False)
        for line in ([1, 0, 0, 0, 1], [2, 0, 0, 0, 1], [1, 0, -10, 0, 1], [3, 0, 0, 0, 1]):
            self.assertIs(is_root(line), True)

    def test_of_degree_two_and_three_by_trying(self):
        for numbers in product(range(-4, 5), repeat=2):
            line = list(numbers) + [1]
            self.assertIs(is_root(line), all(plain.value(line, place) for place in range(-9, 10)))
            cube = [3] + list(numbers) + [1]
            self.assertIs(is_root(cube), all(plain.value(cube, place) for place in (-3, -1, 1, 3)))

    def test_any_value(self):
        check_judge(self, is_root, NOT_ROOTS + ROOTS)


class NumberTest(Case):

    def test_numbers(self):
        for root in ROOTS:
            for value in some(root):
                self.check_number(root, value)
                self.assertIs(is_number(root, value), True)
                self.assertIs(is_number(value=as_tuples(value), root=tuple(root)), True)

    def test_what_is_none(self):
        for root in ROOTS:
            wrong = not_over(len(root) - 1)
            check_judge(self, is_number, wrong, root)
            for value in wrong:
                self.assertIs(is_number(root, value), False, value)

    def test_the_divisor_of_all_matters(self):
        self.assertIs(is_number([-2, 0, 1], ([2, 3], 6)), True)
        self.assertIs(is_number([-2, 0, 1], ([2, 4], 3)), True)
        self.assertIs(is_number([-2, 0, 1], ([2, 4], 6)), False)
        self.assertIs(is_number([-2, 0, 1], ([0, 4], 6)), False)
        self.assertIs(is_number([-2, 0, 1], ([0, 0], 1)), True)
        self.assertIs(is_number([-2, 0, 1], ([0, 0], 3)), False)
        self.assertIs(is_number([-3, 1], ([-1], 10 ** 29)), True)


class ReckoningTest(Case):

    def test_sums_and_products(self):
        for root in ROOTS:
            for one, two in product(some(root), repeat=2):
                a, b = plain.over_of(one), plain.over_of(two)
                told = root_plus(root, one, two)
                self.check_number(root, told)
                self.assertEqual(plain.over_of(told), tuple([x + y for x, y in zip(a, b)]))
                told = root_times(root, one, two)
                self.check_number(root, told)
                self.assertEqual(plain.over_of(told), plain.over_times(root, a, b))

    def test_quotients(self):
        for root in ROOTS:
            for one, two in product(some(root), repeat=2):
                if any(two[0]):
                    told = root_over(root, one, two)
                    self.check_number(root, told)
                    self.assertEqual(plain.over_times(root, plain.over_of(told), plain.over_of(two)),
                                     plain.over_of(one))

    def test_nought_and_one(self):
        for root in ROOTS:
            nought, one = whole(root, 0), whole(root, 1)
            for value in some(root):
                self.assertEqual(root_plus(root, value, nought), value)
                self.assertEqual(root_times(root, value, nought), nought)
                self.assertEqual(root_times(root, one, value), value)
                self.assertEqual(root_over(root, value, one), value)
                self.assertEqual(root_plus(root, value, root_times(root, value, whole(root, -1))), nought)
                refused(self, DividedByNought, root_over, root, value, nought)
                refused(self, DividedByNought, root_over, other=as_tuples(nought), one=value, root=tuple(root))
                if any(value[0]):
                    self.assertEqual(root_over(root, value, value), one)
                    self.assertEqual(root_over(root, nought, value), nought)

    def test_the_root_is_nought_of_its_line(self):
        for root in ROOTS:
            z = ([int(part) for part in plain.over(root, [0, 1])], 1)
            total = whole(root, 0)
            for number in root[::-1]:
                total = root_plus(root, root_times(root, total, z), whole(root, number))
            self.assertEqual(total, whole(root, 0))

    def test_told_ones(self):
        self.assertEqual(exactly(root_times([-3, 1], ([2], 3), ([9], 4))), exactly(([3], 2)))
        self.assertEqual(exactly(root_plus([0, 1], ([1], 2), ([-1], 2))), exactly(([0], 1)))
        self.assertEqual(exactly(root_over([1, 0, 1], ([1, 0], 1), ([0, 2], 3))), exactly(([0, -3], 2)))
        self.assertEqual(exactly(root_times([1, 1, 1], ([0, 1], 1), ([0, 1], 1))), exactly(([-1, -1], 1)))


class NormTest(unittest.TestCase):

    def told(self, root, value):
        result = norm(root, value)
        self.assertEqual([part.__class__ for part in (result, *result)], [tuple, int, int])
        self.assertEqual((len(result), gcd(*result)), (2, 1))
        self.assertGreater(result[1], 0)
        return Fraction(*result)

    def test_by_the_determinant(self):
        for root in ROOTS:
            for value in some(root):
                self.assertEqual(self.told(root, value), plain.norm(root, plain.over_of(value)))

    def test_of_products(self):
        for root in ROOTS:
            for one, two in product(some(root), repeat=2):
                self.assertEqual(self.told(root, root_times(root, one, two)),
                                 self.told(root, one) * self.told(root, two))

    def test_of_fractions_and_of_nought(self):
        for root in ROOTS:
            for top, bottom in ((0, 1), (1, 1), (-1, 1), (6, 1), (-2, 3), (5, 999)):
                value = ([top] + [0] * (len(root) - 2), bottom)
                self.assertEqual(self.told(root, value), Fraction(top, bottom) ** (len(root) - 1))
            self.assertEqual(norm(one=whole(root, 0), root=root), (0, 1))
            for value in some(root):
                self.assertEqual(norm(root, value) == (0, 1), not any(value[0]))

    def test_of_the_root_itself(self):
        for root in ROOTS:
            z = ([int(part) for part in plain.over(root, [0, 1])], 1)
            self.assertEqual(norm(root, z), (root[0] * (-1) ** (len(root) - 1), 1))

    def test_told_ones(self):
        self.assertEqual(norm([-2, 0, 1], ([1, 1], 1)), (-1, 1))
        self.assertEqual(norm([-3, 1], ([1], 2)), (1, 2))
        self.assertEqual(norm([1, 0, 1], ([3, 4], 5)), (1, 1))
        self.assertEqual(norm([-2, 0, 0, 1], ([1, 1, 1], 2)), (1, 8))
        self.assertEqual(norm([0, 1], ([-7], 3)), (-7, 3))


class ConventionsTest(unittest.TestCase):

    def test_parameters(self):
        for root in ([-2, 0, 1], (0, 1), [1, 0, -10, 0, 1]):
            size = len(root) - 1
            one = ([3] + [0] * (size - 1), 2)
            values = [("root", root, NOT_ROOTS, InvalidRoot), ("one", one, not_over(size), InvalidValue)]
            check_parameters(self, norm, values)
            for function in TWO_NUMBERS:
                check_parameters(self, function, values + [("other", as_tuples(one), not_over(size), InvalidValue)])
            for value in (one, None, [1]):
                check_parameters(self, is_number, values[:1] + [("value", value, [], None)])

    def test_each_line_that_is_no_root(self):
        for wrong in NOT_ROOTS:
            for value in (None, ([1], 1), ([1, 0], 1)):
                refused_value(self, InvalidRoot, wrong, is_number, wrong, value)
                refused_value(self, InvalidRoot, wrong, norm, wrong, value)
                for function in TWO_NUMBERS:
                    refused_value(self, InvalidRoot, wrong, function, wrong, value, value)

    def test_numbers_of_another_root(self):
        for root, other in product(ROOTS, ROOTS):
            for value in some(root)[:5]:
                self.assertIs(is_number(other, value), len(root) == len(other))
                if len(root) != len(other):
                    refused_value(self, InvalidValue, value, norm, other, value)
                    refused_value(self, InvalidValue, value, root_plus, other, whole(other, 1), value)

    def test_a_wrong_number_comes_ahead_of_division_by_nought(self):
        nought = ([0, 0], 1)
        for wrong in not_over(2):
            refused_value(self, InvalidValue, wrong, root_over, [-2, 0, 1], wrong, nought)
        for wrong in NOT_LINES:
            refused_value(self, InvalidRoot, wrong, root_over, wrong, nought, nought)
        refused(self, DividedByNought, root_over, [-2, 0, 1], nought, nought)

    def test_integers_alone(self):
        for wrong in NOT_INTEGERS:
            self.assertIs(is_number([-3, 1], ([wrong], 1)), False)
            self.assertIs(is_number([-3, 1], ([1], wrong)), False)

    def test_what_is_passed_stays_and_what_is_returned_is_new(self):
        for root in ROOTS:
            values = some(root)
            for value in values:
                check_call(self, is_number, [root, value])
                check_call(self, norm, [root, value])
                for function in TWO_NUMBERS:
                    wanted = check_call(self, function, [root, value, whole(root, 1)])
                    self.assertEqual(check_call(self, function, [tuple(root), as_tuples(value), whole(root, 1)]),
                                     wanted)
                    check_call(self, function, [root, values[1], values[-1]])
            check_call(self, root_plus, [root, values[0], values[1]])


if __name__ == "__main__":
    unittest.main()
