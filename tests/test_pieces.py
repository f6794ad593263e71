"""Pieces: rows over a root, the product over all roots, the told pieces, what shows a piece."""

import unittest
from fractions import Fraction
from math import gcd

from curvepieces.errors import InvalidPlane, InvalidRoot, InvalidRows, NotClean
from curvepieces.fracparts import fraction_parts, part_lines
from curvepieces.pieces import is_piece, pieces, product_over
from curvepieces.planeparts import is_clean
from curvepieces.planes import degrees, is_plane, plain_plane
from curvepieces.products import parting_row
from curvepieces.rootnumbers import is_number, is_root, root_over
from curvepieces.slopes import slope_rows
from tests import plain
from tests.samples import FEW, SAMPLES
from tests.support import (NOT_PLANES, NOT_ROOTS, STRANGE, Dice, Thing, as_tuples, check_call, check_judge,
                           check_parameters, exactly, refused, refused_limit, refused_value)
from tests.test_rootnumbers import ROOTS, mixed, not_over
from tests.test_slopes import NOT_CLEAN, NOT_TABLED

TWIN, SQRT, PLUS = [[0, 0, -2], [], [1]], [-2, 0, 1], [1, 0, -10, 0, 1]

ONE = ([1], 1)


def number(*numbers, bottom=1):
    return list(numbers), bottom


def line_rows(root, slope, rest=()):
    """The rows x less the slope times y less the rest, numbers by the powers of the root."""
    size = len(root) - 1

    def less(numbers):
        return [-part for part in numbers] + [0] * (size - len(numbers)), 1

    low = [less(rest), less(slope)]
    while low and not any(low[-1][0]):
        low.pop()
    return [low, [([1] + [0] * (size - 1), 1)]]


NEAR = line_rows(SQRT, [0, 1])


def not_rows(size):
    """What is no rows over a root of this degree."""
    one, nought = ([1] + [0] * (size - 1), 1), ([0] * size, 1)
    return STRANGE + [0, 1, -7, [], (), [[]], ((),), [[one], []], [[], []], [[nought]], [[one, nought]],
                      [[one, nought], [one]], [[one], [nought]], [one], one, [[one], one], [[[one]]], [[one], None],
                      [None], [[None]], [[1]], [[1, 1]], [[True]], [[one], [1]], [[one]] * 10, [[one] * 10],
                      [[one], [one] * 10], [[nought] * 9 + [one]], [[one]] * 9 + [[]], [[list(one)]],
                      [[one, list(one)], [one]], {0: [one]}, [{0: one}], [[Thing()]], ["1"], [["1"]],
                      [range(1)]] + [[[value]] for value in not_over(size)] + [[[value, one], [one]]
                                                                               for value in not_over(size)[-16:]]


def mixed_rows(dice, root, m, n, most):
    """Rows of just these degrees, mixed."""
    rows = [[mixed(dice, root, most) for _ in range(n + 1)] for _ in range(m + 1)]
    for line in rows:
        while line and not any(line[-1][0]):
            line.pop()
    if not rows[-1] or max(len(line) for line in rows) <= n:
        return mixed_rows(dice, root, m, n, most)
    return rows


def head_made_one(root, rows):
    return [[root_over(root, part, rows[-1][-1]) for part in line] for line in rows]


def value_over(root, rows, x, y):
    """What the rows come to with two fractions for the letters."""
    total = plain.over(root, [])
    for (i, j), part in plain.rows_spread(rows).items():
        total = tuple([a + b * x ** i * y ** j for a, b in zip(total, part)])
    return total


class Case(unittest.TestCase):

    def check_rows(self, root, rows):
        """They are told as the document wants, with the head one."""
        self.assertIs(is_root(root), True)
        self.assertEqual([root.__class__, rows.__class__], [list, list])
        self.assertTrue(1 <= len(rows) <= 9)
        for line in rows:
            self.assertIs(line.__class__, list)
            for part in line:
                self.assertEqual([value.__class__ for value in (part, *part)], [tuple, list, int])
                self.assertIs(is_number(root, part), True)
            self.assertTrue(not line or any(line[-1][0]))
        self.assertEqual(rows[-1][-1], ([1] + [0] * (len(root) - 2), 1))


class ProductTest(unittest.TestCase):

    def check(self, root, rows):
        """Where numbers are put for both letters, it is the norm, but for one factor."""
        told = product_over(root, rows)
        self.assertTrue(is_plane(told))
        self.assertEqual(exactly(plain_plane(told)), exactly(told))
        size = len(root) - 1
        m, n = degrees(told)
        self.assertEqual((m, n), (size * (len(rows) - 1), size * (max(len(line) for line in rows) - 1)))
        factor = plain.norm(root, plain.over_of(rows[-1][-1])) / told[-1][-1]
        for x in range(m + 1):
            for y in range(n + 1):
                value = sum(part * x ** i * y ** j for (i, j), part in plain.spread(told).items())
                self.assertEqual(factor * value, plain.norm(root, value_over(root, rows, x, y)))

    def test_mixed(self):
        dice = Dice(90)
        for root in ROOTS:
            size = len(root) - 1
            for m, n in ((0, 0), (1, 0), (0, 1), (1, 1), (2, 1), (1, 2), (2, 2)):
                for most in (3, 999):
                    if m * n * size <= 8:
                        self.check(root, mixed_rows(dice, root, m, n, most))
        self.check(SQRT, mixed_rows(dice, SQRT, 4, 3, 9))
        self.check([-3, 1], mixed_rows(dice, [-3, 1], 8, 8, 9))
        self.check([-2, 0, 0, 1], mixed_rows(dice, [-2, 0, 0, 1], 2, 2, 999999))

    def test_told_ones(self):
        self.assertEqual(exactly(product_over(SQRT, NEAR)), exactly(TWIN))
        self.assertEqual(product_over(rows=as_tuples(NEAR), root=tuple(SQRT)), TWIN)
        self.assertEqual(product_over([-3, 1], [[number(1, bottom=2)], [number(-1, bottom=3)]]), [[-3], [2]])
        self.assertEqual(product_over(SQRT, [[number(0, 5, bottom=3)]]), [[1]])
        self.assertEqual(product_over([0, 1], [[number(-4)]]), [[1]])
        self.assertEqual(product_over([1, 0, 1], line_rows([1, 0, 1], [0, 1])), [[0, 0, 1], [], [1]])
        self.assertEqual(product_over([-2, 0, 0, 1], line_rows([-2, 0, 0, 1], [0, 1])), [[0, 0, 0, -2], [], [], [1]])
        self.assertEqual(product_over(PLUS, line_rows(PLUS, [0, 1])), [[0, 0, 0, 0, 1], [], [0, 0, -10], [], [1]])

    def test_two_roots_that_lead_to_one_polynomial(self):
        self.assertEqual(product_over(SQRT, line_rows(SQRT, [1])), [[0, 0, 1], [0, -2], [1]])
        # z z of PLUS is 5 and twice a root of 6.
        self.assertEqual(product_over(PLUS, line_rows(PLUS, [0, 0, 1])),
                         plain.product([[0, 0, 1], [0, -10], [1]], [[0, 0, 1], [0, -10], [1]]))

    def test_too_many(self):
        for root, most in (([0, 1], 8), (SQRT, 4), ([-2, 0, 0, 1], 2), (PLUS, 2)):
            one, nought = ([1] + [0] * (len(root) - 2), 1), ([0] * (len(root) - 1), 1)
            for rows in ([[]] * most + [[one]], [[nought] * most + [one]], [[nought] * most + [one], [one]]):
                self.assertEqual(max(degrees(product_over(root, rows))), most * (len(root) - 1))
            if most < 8:
                for rows in ([[]] * (most + 1) + [[one]], [[nought] * (most + 1) + [one]], [[one] * 9] * 9,
                             [[nought] * (most + 1) + [one], [one]], [[nought] * 8 + [one]], ([],) * 8 + ([one],)):
                    refused_limit(self, "degree", 8, product_over, root, rows)
                    refused_limit(self, "degree", 8, product_over, rows=rows, root=tuple(root))

    def test_parameters(self):
        for root in ([0, 1], SQRT, [-2, 0, 0, 1], PLUS):
            size = len(root) - 1
            rows = [[], [([1] * size, 2)]]
            check_parameters(self, product_over, [("root", root, NOT_ROOTS, InvalidRoot),
                                                  ("rows", rows, not_rows(size), InvalidRows)])

    def test_rows_over_another_root_and_wrong_roots(self):
        refused_value(self, InvalidRows, NEAR, product_over, [0, 1], NEAR)
        refused_value(self, InvalidRows, NEAR, product_over, [-2, 0, 0, 1], NEAR)
        for wrong in NOT_ROOTS:
            refused_value(self, InvalidRoot, wrong, product_over, wrong, NEAR)
        many = [[]] * 5 + [[number(1, 0), number(0, 0)]]
        refused_value(self, InvalidRows, many, product_over, SQRT, many)


class PiecesTest(Case):

    def check(self, plane):
        """All that the points tell of the pieces of a plane; their many."""
        told = pieces(plane)
        self.assertEqual([told.__class__] + [piece.__class__ for piece in told], [list] + [tuple] * len(told))
        self.assertEqual([root for root, _ in told], part_lines(plane))
        self.assertEqual(sorted(told), told)
        parts = []
        for piece in told:
            root, rows = piece
            self.check_rows(root, rows)
            parts.append((product_over(root, rows), len(root) - 1))
            self.assertIs(is_piece(plane, piece), True)
            self.assertIs(plain.rows_go(root, rows, plain.plane_over(root, plane)), True)
            # It is in the parting row's first polynomial, less the root times the slope, too.
            first = plain.mixed([g for g, _ in slope_rows(plane)], parting_row(plane))
            left = {key: plain.over(root, [part]) for key, part in first.items()}
            for key, part in plain.slope_x(plain.spread(plane)).items():
                old = left.get(key, plain.over(root, []))
                left[key] = tuple([a - b for a, b in zip(old, plain.over(root, [0, part]))])
            self.assertIs(plain.rows_go(root, rows, left), True)
        self.assertEqual(sorted(parts), fraction_parts(plane))
        return len(told)

    def test_samples(self):
        seen = set()
        for plane, parts in SAMPLES[::6] + FEW:
            self.check(plane)
            seen.add(tuple(sorted(len(root) - 1 for root, _ in pieces(plane))))
        for wanted in ((1,), (2,), (3,), (4,), (1, 1), (1, 2), (1, 3), (2, 2), (1, 1, 1), (1, 1, 2), (1, 1, 1, 1)):
            self.assertIn(wanted, seen)

    def test_planes_made_over_a_root(self):
        dice = Dice(91)
        for root, m, n in ((SQRT, 1, 1), (SQRT, 2, 1), (SQRT, 2, 2), ([1, 1, 1], 1, 2), ([-2, 0, 0, 1], 1, 1),
                           ([-1, -2, 1, 1], 1, 1), ([1, 0, 0, 0, 1], 1, 1), (PLUS, 1, 1), ([3, 1, 0, 0, 1], 1, 0),
                           ([1, 1, 1, 1, 1], 1, 1)):
            for most in (2, 9):
                rows = head_made_one(root, mixed_rows(dice, root, m, n, most))
                plane = product_over(root, rows)
                if is_clean(plane):
                    self.assertIs(is_piece(plane, (root, rows)), len(root) - 1 == sum(m for _, m in
                                                                                     fraction_parts(plane)))
                    self.check(plane)

    def test_great_numbers(self):
        self.assertEqual(self.check([[0, 0, -999983], [], [1]]), 1)
        self.assertEqual(self.check(plain.product([[0, 0, -999983], [], [1]], [[5, 999999], [1]],
                                                  [[7, 1], [-999979]])), 3)

    def test_told_ones(self):
        # Over the root z of 8 + 8 t + t t the pieces of x x - 2 y y are x + y (z + 4) / 2 or its mate.
        root, rows = pieces(TWIN)[0]
        self.assertEqual(root, [8, 8, 1])
        self.assertIn(rows[0][1], (([4, 1], 2), ([-4, -1], 2)))
        self.assertEqual(exactly(pieces([[0, 6], [4]])), exactly([([-1, 1], [[([0], 1), ([3], 2)], [([1], 1)]])]))
        self.assertEqual(exactly(pieces([[4], [2]])), exactly([([-1, 1], [[([2], 1)], [([1], 1)]])]))
        told = pieces([[0, 0, -1], [], [1]])
        self.assertEqual([len(root) for root, _ in told], [2, 2])
        self.assertEqual(sorted(rows for _, rows in told), [[[([0], 1), ([-1], 1)], [([1], 1)]],
                                                            [[([0], 1), ([1], 1)], [([1], 1)]]])

    def test_a_last_line_that_is_no_number(self):
        # x x y y - 3, x y + z of it; and a piece with a line in y in front of x that hangs on the root.
        self.check([[-3], [], [0, 0, 1]])
        root = SQRT
        rows = [[number(1, 0)], [number(0, 1), number(1, 0)]]
        plane = product_over(root, rows)
        self.assertEqual(plane, [[1], [0, 2], [-2, 0, 1]])
        self.assertIs(is_piece(plane, (root, rows)), True)
        self.check(plane)
        self.check(plain.product(plane, [[1, 1], [0, 1]]))


class IsPieceTest(unittest.TestCase):

    def test_whichever_root_was_taken(self):
        for root, slope in ((SQRT, [0, 1]), (SQRT, [0, -1]), ([-8, 0, 1], [0, Fraction(1, 2)]), ([-1, -2, 1], [-1, 1]),
                            ([8, 8, 1], [2, Fraction(1, 2)]), ([-18, 0, 1], [0, Fraction(-1, 3)])):
            bottom = max(Fraction(part).denominator for part in slope)
            low = ([-int(part * bottom) for part in slope], bottom)
            divisor = gcd(bottom, *low[0])
            low = ([part // divisor for part in low[0]], bottom // divisor)
            rows = [[([0, 0], 1), low], [([1, 0], 1)]]
            for plane in (TWIN, plain.product(TWIN, [[-1, 0, 1], [], [1]]), plain.product([[-30]], TWIN)):
                self.assertIs(is_piece(plane, (root, rows)), True)
                self.assertIs(is_piece(value=as_tuples((root, rows)), plane=as_tuples(plane)), True)
                self.assertIs(is_piece(plane, [root, rows]), False)
                self.assertIs(is_piece(plane, (root, rows, [])), False)
                self.assertIs(is_piece(plane, (rows, root)), False)

    def test_over_a_root_of_degree_one(self):
        plane = plain.product([[0, -1], [1]], [[-1, 0, 1], [], [1]])
        straight = [[number(0), number(-1)], [ONE]]
        ring = [[number(-1), number(0), ONE], [], [ONE]]
        for root in ([0, 1], [-3, 1], (999983, 1)):
            self.assertIs(is_piece(plane, (root, straight)), True)
            self.assertIs(is_piece(plane, (root, ring)), True)
        # The whole plane is two pieces; one that is free of x is none; what does not go in is none.
        both = [[number(0), number(1), number(0), number(-1)], [number(-1), number(0), ONE], [number(0), number(-1)],
                [ONE]]
        self.assertEqual(product_over([0, 1], both), plane)
        self.assertIs(is_piece(plane, ([0, 1], both)), False)
        for rows in ([[ONE]], [[number(-1), ONE]], [[number(0), ONE], [ONE]], [[], [ONE]],
                     [[number(-1), number(0), ONE], [], [ONE], [ONE]]):
            self.assertIs(is_piece(plane, ([0, 1], rows)), False)

    def test_the_head_is_one(self):
        for factor in (number(2, 0), number(-1, 0), number(0, 1), number(1, 0, bottom=2), number(1, 1)):
            size = [[([0, 0], 1), root_over(SQRT, number(0, -1), factor)],
                    [root_over(SQRT, number(1, 0), factor)]]
            self.assertEqual(product_over(SQRT, size), TWIN)
            self.assertIs(is_piece(TWIN, (SQRT, size)), False)
        self.assertIs(is_piece([[0, 3], [2]], ([0, 1], [[number(0), number(3)], [number(2)]])), False)
        self.assertIs(is_piece([[0, 3], [2]], ([0, 1], [[number(0), number(3, bottom=2)], [ONE]])), True)

    def test_two_roots_that_lead_to_one_polynomial(self):
        plane = plain.product([[0, -1], [1]], [[0, 1], [1]])
        self.assertIs(is_piece(plane, (SQRT, line_rows(SQRT, [1]))), False)
        self.assertIs(is_piece([[0, 0, 1], [0, -10], [1]], (PLUS, line_rows(PLUS, [0, 0, 1]))), False)
        # The root of 2 by the powers of z with PLUS: half of z z z less 9 z.
        rows = [[([0, 0, 0, 0], 1), ([0, 9, 0, -1], 2)], [([1, 0, 0, 0], 1)]]
        self.assertEqual(product_over(PLUS, rows), plain.product(TWIN, TWIN))
        self.assertIs(is_piece(TWIN, (PLUS, rows)), False)
        self.assertIs(is_piece([[0, 0, 0, 0, 1], [], [0, 0, -10], [], [1]], (PLUS, line_rows(PLUS, [0, 1]))), True)

    def test_what_falls_itself_or_has_a_part_with_fractions(self):
        # (x - z y) (x - z) goes into (x x - 2 y y) (x x - 2), and its product over all roots is clean, of four.
        plane = plain.product(TWIN, [[-2], [], [1]])
        rows = [[number(0, 0), number(2, 0)], [number(0, -1), number(0, -1)], [number(1, 0)]]
        self.assertEqual(product_over(SQRT, rows), plane)
        self.assertIs(is_piece(plane, (SQRT, rows)), False)
        # (x - z y) (x - y) goes into (x x - 2 y y) (x - y), but its product over all roots has x - y twice.
        plane = plain.product(TWIN, [[0, -1], [1]])
        rows = [[number(0, 0), number(0, 0), number(0, 1)], [number(0, 0), number(-1, -1)], [number(1, 0)]]
        self.assertIs(is_piece(plane, (SQRT, rows)), False)
        self.assertIs(is_piece(plane, (SQRT, line_rows(SQRT, [0, 1]))), True)

    def test_what_does_not_go_in(self):
        # Its product over all roots is clean and has two pieces.
        for rows in (line_rows(SQRT, [1, 1]), line_rows(SQRT, [0, 2]), line_rows(SQRT, [0, 1], [1])):
            self.assertIs(is_piece(product_over(SQRT, rows), (SQRT, rows)), True)
            self.assertIs(is_piece(TWIN, (SQRT, rows)), False)
            self.assertIs(is_piece(plain.product(TWIN, TWIN[:1] + [[], [3]]), (SQRT, rows)), False)
        self.assertIs(is_piece([[0, 0, -3], [], [1]], (SQRT, NEAR)), False)
        self.assertIs(is_piece(TWIN, ([-3, 0, 1], line_rows([-3, 0, 1], [0, 1]))), False)
        self.assertIs(is_piece(TWIN, ([0, 1], [[number(0), number(0), number(-2), ONE], [], [ONE]])), False)
        self.assertIs(is_piece([[0, -1], [1]], ([0, 1], [[number(0), number(0), number(-2)], [], [ONE]])), False)

    def test_without_y(self):
        self.assertIs(is_piece([[-2], [], [1]], (SQRT, line_rows(SQRT, [], [0, 1]))), True)
        self.assertIs(is_piece([[-2], [], [1]], (SQRT, line_rows(SQRT, [], [1]))), False)
        self.assertIs(is_piece([[6], [-5], [1]], ([0, 1], line_rows([0, 1], [], [3]))), True)
        self.assertIs(is_piece([[6], [-5], [1]], ([0, 1], [[number(6)], [number(-5)], [ONE]])), False)
        self.assertIs(is_piece([[6], [-5], [1]], ([0, 1], [[ONE]])), False)

    def test_rows_and_roots_that_are_none(self):
        wrong = [(root, NEAR) for root in NOT_ROOTS] + [(SQRT, rows) for rows in not_rows(2)]
        wrong += NOT_PLANES + [(), (SQRT,), (SQRT, NEAR, NEAR), [SQRT, NEAR], (NEAR, SQRT), (None, None)]
        # Rows that end with nought.
        wrong += [(SQRT, [[number(0, 0), number(0, -1), number(0, 0)], [number(1, 0)]]),
                  (SQRT, NEAR + [[]]), (SQRT, [NEAR[0], [number(1, 0), number(0, 0)]])]
        check_judge(self, is_piece, wrong, TWIN)
        for value in wrong:
            self.assertIs(is_piece(TWIN, value), False, value)

    def test_what_leaves_a_number_alone(self):
        for rows in (line_rows(SQRT, [], [1, 1]), line_rows(SQRT, [], [3, 1])):
            self.assertIs(is_piece(product_over(SQRT, rows), (SQRT, rows)), True)
            self.assertIs(is_piece([[-2], [], [1]], (SQRT, rows)), False)
            self.assertIs(is_piece(plain.product([[-2], [], [1]], [[0, 1], [1]]), (SQRT, rows)), False)

    def test_a_whole_plane_over_a_root_of_degree_four(self):
        for plane in ([[0, 0, 0, 0, -2], [], [], [], [1]], [[-1, 0, 0, 0, 1], [], [], [], [1]]):
            for root in (PLUS, [-2, 0, 0, 0, 1], [-2, 0, 0, 1], SQRT):
                rows = [[([part] + [0] * (len(root) - 2), 1) for part in line] for line in plane]
                self.assertIs(is_piece(plane, (root, rows)), False)
            rows = [[([part], 1) for part in line] for line in plane]
            self.assertIs(is_piece(plane, ([0, 1], rows)), plane[0][0] == -1)

    def test_rows_of_great_degrees(self):
        one, nought = number(1, 0), number(0, 0)
        for rows in ([[one]] * 9, [[nought] * 8 + [one]] * 9, [[nought] * 8 + [one], [one]], [[]] * 8 + [[one]]):
            self.assertIs(is_piece(TWIN, (SQRT, rows)), False)


class ConventionsTest(unittest.TestCase):

    def test_parameters(self):
        check_parameters(self, pieces, [("plane", TWIN, NOT_PLANES, InvalidPlane)])
        for value in ((SQRT, NEAR), None, 7):
            check_parameters(self, is_piece, [("plane", TWIN, NOT_PLANES, InvalidPlane), ("value", value, [], None)])

    def test_errors_of_state(self):
        for plane in NOT_CLEAN:
            refused(self, NotClean, pieces, plane)
            refused(self, NotClean, is_piece, as_tuples(plane), (SQRT, NEAR))
            refused(self, NotClean, is_piece, value=None, plane=plane)
        for _, plane in NOT_TABLED:
            refused_limit(self, "degree", 4, pieces, plane)
            refused_limit(self, "degree", 4, is_piece, as_tuples(plane), (SQRT, NEAR))
            refused_limit(self, "degree", 4, is_piece, plane=plane, value=None)

    def test_what_is_passed_stays_and_what_is_returned_is_new(self):
        for plane, _ in FEW:
            wanted = check_call(self, pieces, [plane])
            self.assertEqual(check_call(self, pieces, [as_tuples(plane)]), wanted)
            for piece in wanted:
                check_call(self, is_piece, [plane, piece])
                check_call(self, product_over, list(piece))
                check_call(self, product_over, list(as_tuples(piece)))
        for rows in (NEAR + [[]], [[number(2, 2)]], [[number(0, 0)]], [[None]], line_rows(SQRT, [1, 1])):
            check_call(self, is_piece, [TWIN, (SQRT, rows)])


if __name__ == "__main__":
    unittest.main()
