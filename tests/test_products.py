"""Products of slope rows: the table of products, the one, own lines, what parts all, the parting row."""

import unittest
from fractions import Fraction
from math import gcd

from curvepieces.errors import InvalidPlane, InvalidRow, NotClean
from curvepieces.lines import is_line, plain_line
from curvepieces.products import one_row, own_line, parting_row, parts_all, product_table
from curvepieces.slopes import piece_count, slope_rows
from tests import plain
from tests.samples import FEW, SAMPLES
from tests.support import (NOT_INTEGERS, NOT_PLANES, STRANGE, Dice, as_tuples, check_call, check_parameters, exactly,
                           refused, refused_limit, refused_value)
from tests.test_slopes import NOT_CLEAN, NOT_TABLED

TWIN, RING = [[0, 0, -2], [], [1]], [[-1, 0, 1], [], [1]]

ONE_PLANE, WITH_ROW = [product_table, one_row, parting_row], [own_line, parts_all]

# Planes of which the row of the numbers 1, 1, .. does not part all, neither does 1, 0, ..
LATE = [[[0, 0, 0, -1], [], [0, 1, 1], [], [-1]], [[0, 0, 0, 0, -1], [], [], [], [1]],
        [[0, 0, 0, 0, -2], [], [0, 0, -1], [], [1]]]

# What is no list of two INTEGERS.
NOT_PAIRS = STRANGE + [0, 1, [], (), [1], [1, 2, 3], (0, 0, 0), [True, 1], [1, False], (0, True), [None, 1], [1, "2"],
                       [[1], 2], [1, (2,)], [[1, 2]], "12", b"12", {0: 1, 1: 2}, range(2), [1, object()]]


def firsts(plane):
    return [g for g, _ in slope_rows(plane)]


def fraction(pair):
    return Fraction(pair[0], pair[1])


def table_by(plane, row):
    """By which fractions the told rows are multiplied by the row: at j the mix of the product of it and bj."""
    table = product_table(plane)
    many = len(table)
    return [[sum(row[i] * fraction(table[i][j][k]) for i in range(many)) for k in range(many)] for j in range(many)]


def powers(base, many):
    return [base ** power for power in range(many)]


class ProductTableTest(unittest.TestCase):

    def check_fractions(self, numbers, many):
        self.assertIs(numbers.__class__, list)
        self.assertEqual(len(numbers), many)
        for number in numbers:
            self.assertEqual([part.__class__ for part in (number, *number)], [tuple, int, int])
            self.assertEqual(len(number), 2)
            self.assertGreater(number[1], 0)
            self.assertEqual(gcd(*number), 1)

    def test_the_plane_goes_into_what_is_left_of_each_product(self):
        for plane, parts in SAMPLES[::7] + FEW:
            table, slopes = product_table(plane), plain.slope_x(plain.spread(plane))
            rows = [plain.spread(g) for g in firsts(plane)]
            self.assertEqual(len(table), len(rows))
            for i, line in enumerate(table):
                self.assertEqual(len(line), len(rows))
                for j, numbers in enumerate(line):
                    self.check_fractions(numbers, len(rows))
                    mix = plain.mixed(firsts(plane), [fraction(number) for number in numbers])
                    left = plain.spread_plus(plain.spread_times(rows[i], rows[j]),
                                             plain.spread_times(slopes, mix), -1)
                    self.assertTrue(plain.spread_goes(plain.spread(plane), left), (plane, i, j))
                    self.assertEqual(numbers, table[j][i])

    def test_products_of_mixes(self):
        dice = Dice(70)
        for plane, _ in FEW:
            rows, table, slopes = firsts(plane), product_table(plane), plain.slope_x(plain.spread(plane))
            many = len(rows)
            for _ in range(4):
                one, two = [[dice.roll(-9, 9) for _ in range(many)] for _ in range(2)]
                told = [sum(one[i] * two[j] * fraction(table[i][j][k]) for i in range(many) for j in range(many))
                        for k in range(many)]
                left = plain.spread_plus(plain.spread_times(plain.mixed(rows, one), plain.mixed(rows, two)),
                                         plain.spread_times(slopes, plain.mixed(rows, told)), -1)
                self.assertTrue(plain.spread_goes(plain.spread(plane), left))

    def test_how_three_are_put_together_does_not_matter(self):
        for plane, parts in SAMPLES[::5]:
            tables = [table_by(plane, [int(i == k) for k in range(len(firsts(plane)))])
                      for i in range(len(firsts(plane)))]
            for one in tables:
                for two in tables:
                    places = range(len(tables))
                    both = [[[sum(a[j][k] * b[k][m] for k in places) for m in places] for j in places]
                            for a, b in ((one, two), (two, one))]
                    self.assertEqual(both[0], both[1])

    def test_the_one(self):
        for plane, _ in SAMPLES[::5] + FEW:
            numbers = one_row(plane)
            self.check_fractions(numbers, len(firsts(plane)))
            self.assertEqual(plain.mixed(firsts(plane), [fraction(number) for number in numbers]),
                             plain.slope_x(plain.spread(plane)))
            many = len(numbers)
            self.assertEqual(table_by(plane, [fraction(number) for number in numbers]),
                             [[int(i == j) for j in range(many)] for i in range(many)])

    def test_the_example(self):
        self.assertEqual(exactly(slope_rows(TWIN)), exactly([([[], [-1]], [[0, 2]]), ([[0, -1]], [[], [1]])]))
        self.assertEqual(exactly(one_row(TWIN)), exactly([(-2, 1), (0, 1)]))
        self.assertEqual(exactly(product_table(TWIN)), exactly([[[(-1, 2), (0, 1)], [(0, 1), (-1, 2)]],
                                                                [[(0, 1), (-1, 2)], [(-1, 4), (0, 1)]]]))
        self.assertEqual(own_line(TWIN, [0, 1]), [-1, 0, 8])
        self.assertEqual(own_line(TWIN, [1, 1]), [1, 8, 8])
        self.assertEqual(exactly(parting_row(TWIN)), exactly([8, 8]))
        self.assertEqual(own_line(TWIN, [8, 8]), [8, 8, 1])
        self.assertEqual([parts_all(TWIN, row) for row in ([1, 0], [0, 1], [1, 1], [0, 0])],
                         [False, True, True, False])

    def test_of_one_piece(self):
        self.assertEqual(product_table([[0, 3], [2]]), [[[(1, 1)]]])
        self.assertEqual(one_row([[0, 3], [2]]), [(1, 1)])
        self.assertEqual(product_table([[0, -1], [1]]), [[[(-1, 1)]]])
        self.assertEqual(one_row([[0, -1], [1]]), [(-1, 1)])
        self.assertEqual(product_table([[4], [2]]), [[[(1, 2)]]])
        self.assertEqual(one_row([[4], [2]]), [(2, 1)])
        self.assertEqual(product_table([[4], [-2]]), [[[(-1, 2)]]])
        self.assertEqual(one_row(plane=[[4], [-2]]), [(-2, 1)])


class OwnLineTest(unittest.TestCase):

    def check(self, plane, row):
        """The own line is the determinant, up to a number, and plain."""
        line, table = own_line(plane, row), table_by(plane, row)
        many = len(table)
        self.assertTrue(is_line(line))
        self.assertEqual(len(line), many + 1)
        self.assertEqual(plain_line(line), line)
        for place in range(-2, many + 1):
            self.assertEqual(plain.value(line, place), line[-1] * plain.own_value(table, place))
        self.assertIs(parts_all(plane, row), plain.common_degree(line, plain.slope(line)) == 0)

    def test_by_the_determinant(self):
        dice = Dice(71)
        for plane, parts in SAMPLES[::13] + FEW:
            many = piece_count(plane)
            for row in ([0] * many, [1] + [0] * (many - 1), powers(2, many), [dice.roll(-9, 9) for _ in range(many)],
                        [dice.roll(-999999, 999999) for _ in range(many)]):
                self.check(plane, row)
                self.assertEqual(own_line(row=tuple(row), plane=as_tuples(plane)), own_line(plane, row))

    def test_own_numbers_that_are_known(self):
        # A row that is made of the whole parts has on each piece of a part the number by which the part went in.
        dice = Dice(72)
        for plane, parts in SAMPLES[1::3]:
            if len(parts) == 1:
                continue
            rows = firsts(plane)
            shares = []
            for part, _ in parts:
                rest = plain.product(*[other for other, _ in parts if other != part])
                share = plain.gathered(plain.spread_times(plain.spread(rest), plain.slope_x(plain.spread(part))))
                shares.append(plain.mix_of(rows, share))
            bottom = 1
            for share in shares:
                for number in share:
                    bottom = bottom * number.denominator // gcd(bottom, number.denominator)
            for _ in range(2):
                numbers = [dice.roll(-3, 3) for _ in parts]
                row = [int(bottom * sum(number * share[k] for number, share in zip(numbers, shares)))
                       for k in range(len(rows))]
                roots = [bottom * number for number, (_, many) in zip(numbers, parts) for _ in range(many)]
                self.assertEqual(own_line(plane, row), plain.times_all([[-root, 1] for root in roots]))
                self.assertIs(parts_all(plane, row), len(set(roots)) == len(roots))

    def test_of_nought_and_of_the_one(self):
        for plane, many in FEW:
            self.assertEqual(own_line(plane, [0] * many), [0] * many + [1])
            self.assertIs(parts_all(plane, [0] * many), many == 1)
            bottom = 1
            for _, part in one_row(plane):
                bottom = bottom * part
            row = [top * bottom // part for top, part in one_row(plane)]
            self.assertEqual(own_line(plane, row), plain.times_all([[-bottom, 1]] * many))

    def test_a_multiple_of_a_row(self):
        for plane, many in FEW:
            line = own_line(plane, powers(3, many))
            times = own_line(plane, [-6 * number for number in powers(3, many)])
            self.assertEqual(times, plain.plain_line_of([Fraction(number, (-6) ** at)
                                                         for at, number in enumerate(line)]))

    def test_great_numbers(self):
        plane = [[0, 0, -999983], [], [1]]
        self.check(plane, [999999, -999999])
        self.check([[0, 0, 0, 0, 999983], [], [], [], [-999999]], [10 ** 29 + 7, -10 ** 29, 3, 999999])
        self.assertGreater(max(own_line([[0, 0, 0, 0, 999983], [], [], [], [-999999]], [1, 2, 4, 8])), 10 ** 12)


class PartingRowTest(unittest.TestCase):

    def test_the_least_that_parts_all(self):
        seen = set()
        for plane, parts in SAMPLES[::3] + FEW + [(plane, None) for plane in LATE]:
            many = piece_count(plane)
            base = 0
            while not parts_all(plane, powers(base, many)):
                base += 1
            self.assertLessEqual(2 * base, many * (many - 1) * (many - 1))
            seen.add((many, base))
            row = parting_row(plane)
            top = own_line(plane, powers(base, many))[-1]
            self.assertEqual(exactly(row), exactly([top * number for number in powers(base, many)]))
            line = own_line(plane, row)
            self.assertEqual(line[-1], 1)
            self.assertIs(parts_all(plane, row), True)
            # Its roots are those of the first row, times the number.
            first = own_line(plane, powers(base, many))
            self.assertEqual([number * top ** (many - 1) for number in first],
                             [number * top ** at for at, number in enumerate(line)])
        self.assertTrue({(1, 0), (2, 0), (2, 1), (3, 0), (3, 1), (3, 2), (4, 0), (4, 1), (4, 2)} <= seen)

    def test_of_one_piece(self):
        self.assertEqual(parting_row([[0, 3], [2]]), [1])
        self.assertEqual(own_line([[0, 3], [2]], [1]), [-1, 1])
        self.assertEqual(parting_row(plane=[[4], [2]]), [2])
        self.assertEqual(own_line([[4], [2]], [1]), [-1, 2])
        self.assertEqual(own_line([[4], [2]], [2]), [-1, 1])

    def test_big_own_lines(self):
        plane = plain.product([[0, 0, -999983], [], [1]], [[5, 999999], [1]], [[7, 1], [-999979]])
        line = own_line(plane, parting_row(plane))
        self.assertEqual((len(line), line[-1]), (5, 1))
        self.assertGreater(max(abs(number) for number in line), 10 ** 12)


class ConventionsTest(unittest.TestCase):

    def test_parameters(self):
        for function in ONE_PLANE:
            check_parameters(self, function, [("plane", TWIN, NOT_PLANES, InvalidPlane)])
        for function in WITH_ROW:
            check_parameters(self, function, [("plane", TWIN, NOT_PLANES, InvalidPlane),
                                              ("row", [1, -2], NOT_PAIRS, InvalidRow)])

    def test_rows_of_another_size(self):
        for plane, many in FEW:
            for wrong in ([1] * (many - 1), [1] * (many + 1), (1,) * (many + 1), [True] * many, [0] * (many - 1) + [None],
                          1, None):
                for function in WITH_ROW:
                    refused_value(self, InvalidRow, wrong, function, plane, wrong)
                    refused_value(self, InvalidRow, wrong, function, row=wrong, plane=as_tuples(plane))
            for wrong in NOT_INTEGERS:
                row = [1] * (many - 1) + [wrong]
                refused_value(self, InvalidRow, row, own_line, plane, row)
                refused_value(self, InvalidRow, row, parts_all, plane, row)

    def test_errors_of_state_come_ahead_of_the_row(self):
        for wrong in ([], [1, 2], None, [True], "12"):
            for function in WITH_ROW:
                for plane in NOT_CLEAN:
                    refused(self, NotClean, function, plane, wrong)
                for _, plane in NOT_TABLED:
                    refused_limit(self, "degree", 4, function, row=wrong, plane=plane)
                refused_value(self, InvalidPlane, bad := [[0]], function, bad, wrong)

    def test_not_clean_and_degrees_above_four(self):
        for function in ONE_PLANE:
            for plane in NOT_CLEAN:
                refused(self, NotClean, function, plane)
                refused(self, NotClean, function, plane=as_tuples(plane))
            for _, plane in NOT_TABLED:
                refused_limit(self, "degree", 4, function, plane)

    def test_parts_all_returns_a_bool(self):
        for plane, many in FEW:
            for row in ([0] * many, [1] * many, powers(2, many)):
                self.assertIs(parts_all(plane, row).__class__, bool)

    def test_what_is_passed_stays_and_what_is_returned_is_new(self):
        for plane, many in FEW:
            for function in ONE_PLANE:
                wanted = check_call(self, function, [plane])
                self.assertEqual(check_call(self, function, [as_tuples(plane)]), wanted)
            for function in WITH_ROW:
                wanted = check_call(self, function, [plane, powers(3, many)])
                self.assertEqual(check_call(self, function, [as_tuples(plane), tuple(powers(3, many))]), wanted)


if __name__ == "__main__":
    unittest.main()
