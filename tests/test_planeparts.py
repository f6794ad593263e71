"""What goes into a plane, common parts, clean planes and places."""

import unittest
from itertools import combinations, product

from curvepieces.errors import InvalidPlane, NoPart, NotClean, ZeroPlane
from curvepieces.lines import line_value
from curvepieces.planeparts import clean_place, goes_into, is_clean, plane_common, plane_quotient
from curvepieces.planes import at_y, degrees, plain_plane, plane_less, plane_sum, plane_times
from tests import plain
from tests.support import NOT_PLANES, Dice, as_tuples, check_call, check_judge, check_parameters, refused

# Planes, plain and whole over the fractions, no two of them alike: with both letters, free of x, free of y.
WHOLE = [[[0, 1], [1]], [[0, -1], [1]], [[0, 0, -2], [], [1]], [[-1, 0, 1], [], [1]], [[3, 0, 1], [0, 2]],
         [[0, 1, 5], [], [], [2]], [[], [1]], [[-5], [1]], [[-2], [], [1]], [[0, 1]], [[7, 3]], [[1, 0, 1]]]
WITH_X, FREE_OF_X = WHOLE[:9], WHOLE[9:]

NUMBERS = [[[1]], [[-1]], [[6]], [[-35]]]
EDGES = NUMBERS + WHOLE + [[[2, 2]], [[0, -2], [4]], [[0, 0, 3], [], [-6]]]


def of(factor, *planes):
    """The number times the product of the planes."""
    return plain.product([[factor]], *planes)


class GoesIntoTest(unittest.TestCase):

    def test_whole_ones_into_products(self):
        for parts in list(combinations(WHOLE, 3)):
            both = of(-6, *parts)
            for part in WHOLE:
                self.assertIs(goes_into(both, of(35, part)), part in parts, (parts, part))
            for one, two in combinations(parts, 2):
                self.assertIs(goes_into(both, of(4, one, two)), True)
                self.assertIs(goes_into(of(4, one, two), both), False)
                self.assertIs(goes_into(both, of(1, one, one)), False)

    def test_numbers(self):
        for plane, number in product(EDGES, NUMBERS):
            self.assertIs(goes_into(plane, number), True)
            self.assertIs(goes_into(number, plane), plane in NUMBERS)

    def test_with_a_rest(self):
        dice = Dice(40)
        for _ in range(80):
            part, other = dice.plane(dice.roll(0, 3), dice.roll(0, 3), 9), dice.plane(2, 2, 9)
            both = plane_times(part, other)
            self.assertIs(goes_into(both, part), True)
            if degrees(part) != (0, 0):
                self.assertIs(goes_into(plane_sum(both, [[1]]), part), False)
                self.assertIs(goes_into(plane_sum(both, [[], [0, 1]]), part), degrees(part) != (0, 0) and
                              plain_plane(part) in ([[0, 1]], [[], [1]], [[], [0, 1]]))

    def test_of_nought(self):
        for plane in EDGES:
            self.assertIs(goes_into([], plane), True)
        for plane in EDGES + [[]]:
            refused(self, ZeroPlane, goes_into, plane, [])
            refused(self, ZeroPlane, goes_into, other=(), plane=plane)

    def test_only_some_lines_are_multiples(self):
        self.assertIs(goes_into([[1, 1], [2, 2]], [[1, 1]]), True)
        self.assertIs(goes_into([[1], [2, 2]], [[1, 1]]), False)
        self.assertIs(goes_into([[1, 1], [2]], [[1, 1]]), False)
        self.assertIs(goes_into([[0, 1], [0, 0, 1]], [[0, 1], [1]]), False)


class QuotientTest(unittest.TestCase):

    def test_products(self):
        for one, two in product(EDGES, EDGES):
            both = plain.product(one, two)
            self.assertEqual(plane_quotient(both, one), plain_plane(two))
            self.assertEqual(plane_quotient(both, of(-15, one)), plain_plane(two))
            self.assertEqual(plane_quotient(of(-4, both), of(6, two)), plain_plane(one))

    def test_mixed(self):
        dice = Dice(41)
        for _ in range(60):
            one = dice.plane(dice.roll(0, 4), dice.roll(0, 4), 999999)
            two = dice.plane(dice.roll(0, 4), dice.roll(0, 4), 999999)
            self.assertEqual(plane_quotient(other=one, plane=plane_times(one, two)), plain_plane(two))

    def test_no_part(self):
        for one, two in product(WHOLE, WHOLE):
            if one != two:
                refused(self, NoPart, plane_quotient, of(3, one, one), two)
                refused(self, NoPart, plane_quotient, one, of(2, one, two))
        refused(self, NoPart, plane_quotient, [[1]], [[0, 1]])

    def test_of_nought(self):
        for plane in EDGES + [[]]:
            refused(self, ZeroPlane, plane_quotient, plane, [])
            refused(self, ZeroPlane, plane_quotient, [], plane)


class CommonPartTest(unittest.TestCase):

    def test_told_parts(self):
        for part in NUMBERS + WHOLE + [of(1, one, two) for one, two in combinations(WHOLE, 2)]:
            for one, two in ((WHOLE[0], WHOLE[4]), (WHOLE[3], WHOLE[9]), (WHOLE[10], WHOLE[11]), (WHOLE[6], [[12]]),
                             ([[-6]], [[4]]), (WHOLE[2], WHOLE[8])):
                wanted = plain_plane(part)
                first, second = plain.product(part, one), of(-10, part, two)
                self.assertEqual(plane_common(first, second), wanted, (part, one, two))
                self.assertEqual(plane_common(second, first), wanted)

    def test_as_often_as_in_both(self):
        one, two, three = WHOLE[0], WHOLE[3], WHOLE[9]
        self.assertEqual(plane_common(of(2, one, one, one, two), of(3, one, one, three)), of(1, one, one))
        self.assertEqual(plane_common(of(2, two, two, three), of(-3, three, three, two)), of(1, two, three))
        self.assertEqual(plane_common(of(5, two), of(-7, two)), two)

    def test_without(self):
        for one, two in combinations(WHOLE, 2):
            self.assertEqual(plane_common(one, two), [[1]])
            self.assertEqual(plane_common(of(6, one), of(-4, two)), [[1]])

    def test_with_nought(self):
        for plane in EDGES:
            self.assertEqual(plane_common(plane, []), plain_plane(plane))
            self.assertEqual(plane_common([], plane), plain_plane(plane))
        self.assertEqual(plane_common([], []), [])
        self.assertEqual(plane_common([[4]], [[-6]]), [[1]])
        self.assertEqual(plane_common([[4]], []), [[1]])

    def test_common_at_a_place_but_not_as_a_whole(self):
        # At one number in the place of y both have a common part, or a common divisor, that is none of both.
        for place in list(range(-30, 60)) + [10 ** k + more for k in range(2, 6) for more in range(-3, 4)]:
            line = [-place, 1]
            self.assertEqual(plane_common([[], [1]], [line, [1]]), [[1]])
            self.assertEqual(plane_common([[1], [1]], [[1 - place, 1], [1]]), [[1]])
            self.assertEqual(plane_common([[0, 1], [1]], [plain.cut([-place]), [-1]]), [[1]])
            self.assertEqual(plane_common([line], [[1], line]), [[1]])
            self.assertEqual(plane_common([line, [3]], [[6, 0, 2], [6]]), [[1]])

    def test_parts_in_one_letter(self):
        # At a number in the place of y near to the root only a number is left of y less it.
        for root in list(range(-40, 41)) + [999983, -999999, 10 ** 29]:
            line = plain.cut([-root, 1])
            for part in ([line], [line, line], [[], line], [[-root or 2], [1]]):
                wanted = plain_plane(part)
                self.assertEqual(plane_common(part, part), wanted)
                for one, two in (([[1]], [[], [1]]), ([[3, 1], [2]], [[1], [5, 1]]), ([[-6, 1]], [[10, 4]])):
                    self.assertEqual(plane_common(plain.product(part, one), plain.product(part, two)), wanted)

    def test_greater_numbers_in_the_part_than_in_both(self):
        # Of x to the 8 less 1 alone the numbers are less than those of some of its parts.
        first = plain.product([[1], [1]], [[1], [1]], [[1, 1], [1]], [[-1], [1]], [[-1], [1]])
        self.assertEqual(plane_common(first, [[-1], [], [1]]), [[-1], [], [1]])
        dice = Dice(42)
        for _ in range(30):
            part = dice.plane(3, 3, 99)
            one, two = of(1, part, [[-1], [1]], [[-1, 1]]), of(1, part, [[0, 1], [1]], [[1, 1], [1]])
            self.assertEqual(plane_common(one, two), plain_plane(part))

    def test_great_numbers(self):
        dice = Dice(43)
        for _ in range(30):
            part, one, two = [dice.plane(dice.roll(0, 4), dice.roll(0, 4), 999999) for _ in range(3)]
            told = plane_common(plane_times(part, one), plane_times(part, two))
            self.assertIs(goes_into(told, part), True)
            self.assertIs(goes_into(plane_times(part, one), told), True)
            self.assertIs(goes_into(plane_times(part, two), told), True)
            self.assertEqual(plane_common(plane_quotient(plane_times(part, one), told),
                                          plane_quotient(plane_times(part, two), told)), [[1]])
        great = [[10 ** 29, 1], [3]]
        self.assertEqual(plane_common(plane_times(great, WHOLE[3]), plane_times(great, great)), great)


class CleanTest(unittest.TestCase):

    def test_products_of_whole_ones(self):
        for parts in list(combinations(WHOLE, 1)) + list(combinations(WHOLE, 2)) + list(combinations(WHOLE, 3)):
            self.assertIs(is_clean(of(-6, *parts)), all([part in WITH_X for part in parts]), parts)

    def test_pieces_that_stand_twice(self):
        for one, two in product(WITH_X, WITH_X):
            self.assertIs(is_clean(of(1, one, one)), False)
            if max(degrees(one)) + max(degrees(one)) + max(degrees(two)) <= 8:
                self.assertIs(is_clean(of(5, one, one, two)), False)

    def test_lines_in_y_as_pieces(self):
        for one, two in product(WITH_X, FREE_OF_X):
            self.assertIs(is_clean(of(1, one, two)), False)
            self.assertIs(is_clean(of(1, one)), True)

    def test_free_of_x(self):
        for plane in [[], [[1]], [[-6]], [[0, 1]], [[1, 2, 3]]]:
            self.assertIs(is_clean(plane), False)

    def test_a_common_divisor_is_no_part(self):
        for plane in WITH_X:
            self.assertIs(is_clean(of(-210, plane)), True)

    def test_great_degrees(self):
        self.assertIs(is_clean([[-1, 0, 0, 0, 0, 0, 0, 0, 1]] + [[]] * 7 + [[1]]), True)
        self.assertIs(is_clean(of(1, *[[[0, -k], [1]] for k in range(8)])), True)
        self.assertIs(is_clean(of(1, *[[[0, -k], [1]] for k in [0, 1, 2, 3, 4, 5, 6, 3]])), False)


def place_by_trying(plane):
    """The least COUNT that leaves a line of the plane's degree in x without double roots."""
    place = 0
    while True:
        line = plain.cut([plain.value(row, place) for row in plane])
        if len(line) == len(plane) and plain.common_degree(line, plain.slope(line)) == 0:
            return place
        place += 1


class CleanPlaceTest(unittest.TestCase):

    def test_by_trying(self):
        for parts in list(combinations(WITH_X, 1)) + list(combinations(WITH_X, 2)) + list(combinations(WITH_X, 3)):
            plane = of(-6, *parts)
            place = clean_place(plane)
            self.assertEqual(place, place_by_trying(plane))
            self.assertEqual(len(at_y(plane, place)), len(plane))

    def test_late_places(self):
        # x to the 2 less a line in y: double where the line is nought.
        line = plain.times_all([[-k, 1] for k in range(8)])
        self.assertEqual(clean_place([[-number for number in line], [], [1]]), 8)
        # The first number is a line in y: there the degree is less.
        self.assertEqual(clean_place([[1], plain.times_all([[-k, 1] for k in range(5)])]), 5)
        # Degree and double roots by turns.
        self.assertEqual(clean_place([plain.times([0, -2, 1], [-5, 1]), [], plain.times([-1, 1], [-4, 1])]), 3)
        self.assertEqual(clean_place([[1], [0, 2, -1]]), 1)

    def test_at_most_told(self):
        dice = Dice(44)
        for _ in range(60):
            plane = dice.plane(dice.roll(1, 4), dice.roll(0, 4), 5)
            if is_clean(plane):
                m, n = degrees(plane)
                place = clean_place(plane=as_tuples(plane))
                self.assertEqual(place, place_by_trying(plane))
                self.assertLessEqual(place, (2 * m - 1) * n + n)
                self.assertNotEqual(line_value(plane[-1], place), 0)

    def test_not_clean(self):
        for plane in ([], [[1]], [[0, 1]], of(1, WHOLE[0], WHOLE[0]), of(2, WHOLE[0], WHOLE[9]), [[0, 1], [0, 1]]):
            refused(self, NotClean, clean_place, plane)
            refused(self, NotClean, clean_place, plane=as_tuples(plane))


class ConventionsTest(unittest.TestCase):

    def test_refused(self):
        for function in (is_clean, clean_place):
            check_parameters(self, function, [("plane", [[0, 1], [2]], NOT_PLANES, InvalidPlane)])
        for function in (goes_into, plane_quotient, plane_common):
            check_parameters(self, function, [("plane", [[0, 1], [2]], NOT_PLANES, InvalidPlane),
                                              ("other", ((0, 1), (2,)), NOT_PLANES, InvalidPlane)])

    def test_errors_of_state_come_behind(self):
        for function in (goes_into, plane_quotient):
            check_parameters(self, function, [("plane", [], NOT_PLANES, InvalidPlane),
                                              ("other", [], NOT_PLANES, InvalidPlane)])

    def test_judges_return_a_bool(self):
        check_judge(self, is_clean, EDGES + [[], as_tuples(WHOLE[0])])
        for plane in EDGES:
            check_judge(self, goes_into, EDGES, plane)
            check_judge(self, goes_into, EDGES, [])

    def test_what_is_passed_stays_and_what_is_returned_is_new(self):
        for plane in WITH_X:
            for function in (is_clean, clean_place):
                wanted = check_call(self, function, [plane])
                self.assertEqual(check_call(self, function, [as_tuples(plane)]), wanted)
        for one, two in product(EDGES, EDGES):
            both = plane_times(one, two)
            for function in (goes_into, plane_quotient, plane_common):
                wanted = check_call(self, function, [both, one])
                self.assertEqual(check_call(self, function, [as_tuples(both), one]), wanted)
                self.assertEqual(check_call(self, function, [both, as_tuples(one)]), wanted)
        for plane in EDGES:
            for function in (plane_quotient, plane_common):
                check_call(self, function, [plane, plane])
            check_call(self, plane_common, [plane, []])
            check_call(self, plane_common, [[], plane])
            self.assertEqual(plane_less(plane_common(plane, plane), plain_plane(plane)), [])


if __name__ == "__main__":
    unittest.main()
