"""Planes: what they are, degrees, heads, sums and products, values, slopes, plain planes."""

import unittest
from itertools import product
from math import gcd

from curvepieces.errors import InvalidNumber, InvalidPlane
from curvepieces.planes import (at_x, at_y, degrees, head, is_plane, plain_plane, plane_less, plane_sum, plane_times,
                                plane_value, slope_x, slope_y)
from tests import plain
from tests.support import (NOT_INTEGERS, NOT_PLANES, Dice, as_tuples, check_call, check_judge, check_parameters,
                           refused_limit)

EDGES = [[], [[1]], [[-6]], [[0, 1]], [[3, 0, -2]], [[], [1]], [[], [], [0, -4]], [[0, 0, -2], [], [1]],
         [[-1, 0, 1], [], [1]], [[4], [-6, -2]], [[5], [0, 2], [1, 1]], [[0, 0, 0, 1], [7]], [[], [], [], [6, 9]],
         [[1, 2, 3, 4, 5, 6, 7, 8, 9]] * 9, [[]] * 8 + [[0] * 8 + [-2]]]

SMALL = [plane for plane in EDGES if len(plane) < 5]

ONE_PLANE = [degrees, head, slope_x, slope_y, plain_plane]
TWO_PLANES = [plane_sum, plane_less, plane_times]
PLACES = [0, 1, -1, 2, -3, 10, 999999, -10 ** 29]


def mixed(seed, many=60, most=4):
    """Pairs of planes of all kinds of degrees."""
    dice = Dice(seed)
    every = [dice.plane(dice.roll(0, most), dice.roll(0, most), 9) for _ in range(2 * many)]
    return list(zip(every[:many], every[many:]))


class IsPlaneTest(unittest.TestCase):

    def test_planes(self):
        for plane in EDGES:
            self.assertIs(is_plane(plane), True)
            self.assertIs(is_plane(as_tuples(plane)), True)
            self.assertIs(is_plane([tuple(line) for line in plane]), True)
        self.assertIs(is_plane(value=[[], [10 ** 29]]), True)

    def test_none(self):
        check_judge(self, is_plane, NOT_PLANES)
        for value in NOT_PLANES:
            self.assertIs(is_plane(value), False, value)

    def test_the_greatest_degrees_are_eight(self):
        for m in range(0, 14):
            for n in range(0, 14):
                let = m <= 8 and n <= 8
                self.assertIs(is_plane([[]] * m + [[0] * n + [1]]), let)
                self.assertIs(is_plane([[0] * n + [1]] + [[]] * m + [[1]]), m <= 7 and n <= 8)

    def test_no_line_ends_with_nought(self):
        for at in range(4):
            plane = [[1], [], [0, 2], [3]]
            plane[at] = plane[at] + [0]
            self.assertIs(is_plane(plane), False)

    def test_the_last_line_is_not_empty(self):
        for size in range(1, 10):
            self.assertIs(is_plane([[1]] * (size - 1) + [[]]), False)
            self.assertIs(is_plane([[1]] * (size - 1) + [()]), False)


class OnePlaneTest(unittest.TestCase):

    def test_degrees(self):
        told = [degrees(plane) for plane in EDGES]
        self.assertEqual(told, [(-1, -1), (0, 0), (0, 0), (0, 1), (0, 2), (1, 0), (2, 1), (2, 2), (2, 2), (1, 1),
                                (2, 1), (1, 3), (3, 1), (8, 8), (8, 8)])
        self.assertEqual({pair.__class__ for pair in told}, {tuple})
        # The greatest power of y may stand in any line.
        self.assertEqual([degrees(plane) for plane in ([[1, 2, 3], [4]], [[1], [0, 0, 5], [2, 1]])], [(1, 2), (2, 2)])

    def test_head(self):
        self.assertEqual([head(plane) for plane in EDGES], [0, 1, -6, 1, -2, 1, -4, 1, 1, -2, 1, 7, 9, 9, -2])

    def test_slopes(self):
        for plane in EDGES:
            terms = plain.spread(plane)
            self.assertEqual(slope_x(plane), plain.gathered(plain.slope_x(terms)))
            self.assertEqual(slope_y(plane), plain.gathered(plain.slope_y(terms)))
        self.assertEqual(slope_x([[5, 6, 7]]), [])
        self.assertEqual(slope_y([[5], [6], [7]]), [])
        # What is free of y at the end goes, and so do lines that become [].
        self.assertEqual(slope_y([[0, 1], [3], [0, 2], [4]]), [[1], [], [2]])
        self.assertEqual(slope_x([[1], [], [0, 3]]), [[], [0, 6]])

    def test_slopes_of_products(self):
        for one, two in mixed(20, 40):
            both = plane_times(one, two)
            for slope in (slope_x, slope_y):
                self.assertEqual(slope(both), plane_sum(plane_times(slope(one), two), plane_times(one, slope(two))))

    def test_plain(self):
        self.assertEqual(plain_plane([]), [])
        self.assertEqual(plain_plane([[-7]]), [[1]])
        self.assertEqual(plain_plane([[6, -9], [], [-12]]), [[-2, 3], [], [4]])
        # The head is the last number of the last line, wherever the greatest power of y stands.
        self.assertEqual(plain_plane([[0, 0, -5], [1]]), [[0, 0, -5], [1]])
        self.assertEqual(plain_plane([[0, 0, 5], [4, -1]]), [[0, 0, -5], [-4, 1]])
        self.assertEqual(plain_plane([[2], [4, 3]]), [[2], [4, 3]])
        for plane in EDGES[1:]:
            for factor in (1, -1, 6, -35, 10 ** 29):
                told = plain_plane([[factor * number for number in line] for line in plane])
                self.assertGreater(head(told), 0)
                self.assertEqual(gcd(*[number for line in told for number in line]), 1)
                self.assertEqual([[a * head(plane) for a in line] for line in told],
                                 [[a * head(told) for a in line] for line in plane])


class SumsAndProductsTest(unittest.TestCase):

    def test_as_polynomials(self):
        for one, two in mixed(21) + list(product(SMALL, SMALL)):
            first, second = plain.spread(one), plain.spread(two)
            self.assertEqual(plane_sum(one, two), plain.gathered(plain.spread_plus(first, second)))
            self.assertEqual(plane_less(one, two), plain.gathered(plain.spread_plus(first, second, -1)))
            self.assertEqual(plane_times(one, two), plain.gathered(plain.spread_times(first, second)))

    def test_degrees_of_sums_may_be_less(self):
        self.assertEqual(plane_sum([[1], [0, 2]], [[0, 3], [0, -2]]), [[1, 3]])
        self.assertEqual(plane_less([[1], [0, 2], [1]], [[0, 3], [], [1]]), [[1, -3], [0, 2]])
        self.assertEqual(plane_sum([[1, 2], [5]], [[3, -2], [1, 1]]), [[4], [6, 1]])
        for plane in EDGES:
            self.assertEqual(plane_less(plane, plane), [])

    def test_with_nought(self):
        for plane in EDGES:
            self.assertEqual(plane_sum(plane, []), plane)
            self.assertEqual(plane_sum([], plane), plane)
            self.assertEqual(plane_less(plane, []), plane)
            self.assertEqual(plane_sum(plane_less([], plane), plane), [])
            self.assertEqual(plane_times(plane, []), [])
            self.assertEqual(plane_times([], plane), [])

    def test_the_degrees_of_a_product_are_at_most_eight(self):
        for first, second in product(range(9), range(9)):
            for pair in (((first, 0), (second, 0)), ((0, first), (0, second)), ((first, second), (4, 4)),
                         ((first, 8), (second, 0)), ((8, second), (0, first))):
                one, two = [[[]] * m + [[0] * n + [3]] for m, n in pair]
                if max(pair[0][0] + pair[1][0], pair[0][1] + pair[1][1]) <= 8:
                    self.assertEqual(plane_times(one, two), plain.product(one, two))
                else:
                    refused_limit(self, "degree", 8, plane_times, one, two)
                    refused_limit(self, "degree", 8, plane_times, other=as_tuples(two), plane=one)


class ValuesTest(unittest.TestCase):

    def test_values(self):
        for plane in EDGES:
            for x, y in product(PLACES, PLACES):
                wanted = sum(number * x ** i * y ** j for (i, j), number in plain.spread(plane).items())
                self.assertEqual(plane_value(plane, x, y), wanted)
        self.assertEqual(plane_value(y=2, x=3, plane=[[0, 1], [10]]), 32)
        self.assertIs(plane_value([], 3, 4).__class__, int)

    def test_lines(self):
        for plane, place in product(EDGES, PLACES):
            left_y, left_x = at_x(plane, place), at_y(plane, place)
            for line in (left_x, left_y):
                self.assertEqual(plain.cut(line), line)
            for other in (0, 1, -2, 5, 7, 11, -13, 17, 19, 23):
                self.assertEqual(plain.value(left_y, other), plane_value(plane, place, other))
                self.assertEqual(plain.value(left_x, other), plane_value(plane, other, place))

    def test_lesser_degrees(self):
        self.assertEqual(at_y([[1], [0, 1]], 0), [1])
        self.assertEqual(at_y([[-2, 1], [-4, 2]], 2), [])
        self.assertEqual(at_x([[0, -3], [0, 1]], 3), [])
        self.assertEqual(at_x([[1, 6], [0, -3]], 2), [1])
        self.assertEqual(at_x([[], [0, 1]], 0), [])
        self.assertEqual([at_x([], 4), at_y([], 4)], [[], []])


class ConventionsTest(unittest.TestCase):

    def test_refused(self):
        plane = ("plane", [[0, 1], [2]], NOT_PLANES, InvalidPlane)
        number = ("number", -3, NOT_INTEGERS, InvalidNumber)
        for function in ONE_PLANE:
            check_parameters(self, function, [plane])
        for function in TWO_PLANES:
            check_parameters(self, function, [plane, ("other", ((), (1,)), NOT_PLANES, InvalidPlane)])
        for function in (at_x, at_y):
            check_parameters(self, function, [plane, number])
        check_parameters(self, plane_value, [plane, ("x", 2, NOT_INTEGERS, InvalidNumber),
                                             ("y", 0, NOT_INTEGERS, InvalidNumber)])

    def test_the_limit_comes_last(self):
        great = [[]] * 8 + [[1]]
        check_parameters(self, plane_times, [("plane", great, NOT_PLANES, InvalidPlane),
                                             ("other", great, NOT_PLANES, InvalidPlane)])

    def test_what_is_passed_stays_and_what_is_returned_is_new(self):
        for plane in EDGES:
            for function in ONE_PLANE:
                wanted = check_call(self, function, [plane])
                self.assertEqual(check_call(self, function, [as_tuples(plane)]), wanted)
            for function in (at_x, at_y):
                wanted = check_call(self, function, [plane, -3])
                self.assertEqual(check_call(self, function, [as_tuples(plane), -3]), wanted)
            self.assertEqual(plane_value(as_tuples(plane), 2, 3), check_call(self, plane_value, [plane, 2, 3]))
        for one, two in product(SMALL, SMALL):
            for function in TWO_PLANES:
                wanted = check_call(self, function, [one, two])
                self.assertEqual(check_call(self, function, [as_tuples(one), two]), wanted)
                self.assertEqual(check_call(self, function, [one, as_tuples(two)]), wanted)
        for function in TWO_PLANES:
            same = [[1, 2], [], [3]]
            check_call(self, function, [same, same])


if __name__ == "__main__":
    unittest.main()
