"""The parts of planes over the fractions: part lines, the parts with their counts, whole planes."""

import unittest

from curvepieces.errors import InvalidPlane, NotClean
from curvepieces.fracparts import fraction_parts, is_whole, part_lines
from curvepieces.letters import changed, exchanged
from curvepieces.lineparts import monic_parts
from curvepieces.planeparts import is_clean
from curvepieces.planes import degrees
from curvepieces.products import own_line, parting_row
from curvepieces.slopes import piece_count
from tests import plain
from tests.samples import FEW, SAMPLES, WHOLE, WHOLE_GREAT
from tests.support import (NOT_PLANES, Dice, as_tuples, check_call, check_judge, check_parameters, exactly, refused,
                           refused_limit)
from tests.test_slopes import NOT_CLEAN, NOT_TABLED

ALL = [part_lines, fraction_parts, is_whole]


class PartLinesTest(unittest.TestCase):

    def test_they_make_the_own_line_of_the_parting_row(self):
        for plane, parts in SAMPLES[::2]:
            lines = part_lines(plane)
            self.assertEqual(exactly(lines), exactly(sorted(lines)))
            self.assertEqual(plain.times_all(lines), own_line(plane, parting_row(plane)))
            for line in lines:
                self.assertEqual((line.__class__, line[-1], monic_parts(line)), (list, 1, [line]))
            self.assertEqual(sorted(len(line) - 1 for line in lines), sorted(many for _, many in parts))

    def test_told_ones(self):
        self.assertEqual(exactly(part_lines([[0, 0, -2], [], [1]])), exactly([[8, 8, 1]]))
        self.assertEqual(part_lines(plane=[[0, 3], [2]]), [[-1, 1]])
        self.assertEqual(part_lines([[-2], [], [1]]), [[-8, 0, 1]])

    def test_several_each_of_its_own_degree(self):
        plane = plain.product([[0, 0, 0, -2], [], [], [1]], [[0, -1], [1]])
        self.assertEqual(sorted(len(line) for line in part_lines(plane)), [2, 4])
        plane = plain.product([[0, 0, -2], [], [1]], [[0, -1], [1]], [[5], [2]])
        self.assertEqual(sorted(len(line) for line in part_lines(plane)), [2, 2, 3])
        plane = plain.product([[0, 0, -2], [], [1]], [[0, 0, 1], [], [1]])
        self.assertEqual([len(line) for line in part_lines(plane)], [3, 3])
        self.assertEqual([len(line) for line in part_lines([[1], [], [], [], [1]])], [5])


class FractionPartsTest(unittest.TestCase):

    def test_products_of_known_ones(self):
        self.assertGreater(len(SAMPLES), 150)
        for plane, parts in SAMPLES:
            told = fraction_parts(plane)
            self.assertEqual(exactly(told), exactly(parts), plane)
            self.assertEqual(sum(many for _, many in told), piece_count(plane))

    def test_multiples(self):
        for plane, parts in SAMPLES[::9]:
            for factor in (-1, 12, -35):
                multiple = [[factor * number for number in line] for line in plane]
                self.assertEqual(fraction_parts(plane=multiple), parts)

    def test_tilted(self):
        # Each letter put in anew: the parts are changed likewise.
        for plane, parts in SAMPLES[::3]:
            for change in ([1, 1, 0, 1, -1, 0], [1, 2, 3, 0, 1, -1], [2, 1, 0, 1, 0, 5]):
                other = changed(plane, change)
                if max(degrees(other)) <= 4 and is_clean(other):
                    wanted = sorted((plain.plain_of(changed(part, change)), many) for part, many in parts)
                    self.assertEqual(fraction_parts(other), wanted)
            if is_clean(exchanged(plane)):
                wanted = sorted((plain.plain_of(exchanged(part)), many) for part, many in parts)
                self.assertEqual(fraction_parts(exchanged(plane)), wanted)

    def test_mixed(self):
        dice = Dice(73)
        for most in (9, 999, 999999):
            for _ in range(6):
                one, two = dice.plane(2, 1, most), dice.plane(2, 3, most)
                both = plain.product(one, two)
                told = fraction_parts(both)
                self.assertEqual(plain.plain_of(plain.product(*[part for part, _ in told])), plain.plain_of(both))
                for part, many in told:
                    self.assertEqual(fraction_parts(part), [(part, many)])
                    self.assertEqual(piece_count(part), many)

    def test_without_y(self):
        line = plain.times_all([[-2, 1], [3, 5], [1, 1, 1]])
        self.assertEqual(fraction_parts([plain.cut([number]) for number in line]),
                         [([[-2], [1]], 1), ([[1], [1], [1]], 2), ([[3], [5]], 1)])
        self.assertEqual(fraction_parts([[4], [], [], [], [1]]), [([[2], [-2], [1]], 2), ([[2], [2], [1]], 2)])
        self.assertEqual(fraction_parts([[24], [-50], [35], [-10], [1]]),
                         [([[-4], [1]], 1), ([[-3], [1]], 1), ([[-2], [1]], 1), ([[-1], [1]], 1)])

    def test_big_own_lines(self):
        parts = [[[0, 0, -999983], [], [1]], [[5, 999999], [1]], [[7, 1], [-999979]]]
        plane = plain.product(*parts)
        row = parting_row(plane)
        self.assertGreater(max(abs(number) for number in own_line(plane, row)), 10 ** 12)
        self.assertEqual(fraction_parts(plane), [([[-7, -1], [999979]], 1), ([[0, 0, -999983], [], [1]], 2),
                                                 ([[5, 999999], [1]], 1)])
        self.assertEqual(fraction_parts([[0, 0, 0, 0, 999983 * 999979], [], [0, 0, -999983 - 999979], [], [1]]),
                         [([[0, 0, -999983], [], [1]], 2), ([[0, 0, -999979], [], [1]], 2)])


class WholeTest(unittest.TestCase):

    def test_known_ones(self):
        for plane, parts in SAMPLES:
            self.assertIs(is_whole(plane), len(parts) == 1)

    def test_a_whole_plane_may_fall_over_all_numbers(self):
        for plane, many in WHOLE + WHOLE_GREAT:
            self.assertIs(is_whole(plane=as_tuples(plane)), True)
            self.assertEqual(fraction_parts(plane), [(plane, many)])
        self.assertEqual({many for _, many in WHOLE + WHOLE_GREAT}, {1, 2, 3, 4})

    def test_a_plane_that_falls_into_two_of_two(self):
        self.assertEqual(fraction_parts([[0, 0, 0, 0, 4], [], [], [], [1]]),
                         [([[0, 0, 2], [0, -2], [1]], 2), ([[0, 0, 2], [0, 2], [1]], 2)])
        self.assertIs(is_whole([[0, 0, 0, 0, 4], [], [], [], [1]]), False)
        self.assertIs(is_whole([[0, 0, 0, 0, 4], [], [], [], [2]]), True)


class ConventionsTest(unittest.TestCase):

    def test_refused(self):
        for function in ALL:
            check_parameters(self, function, [("plane", [[0, 0, -2], [], [1]], NOT_PLANES, InvalidPlane)])
            for plane in NOT_CLEAN:
                refused(self, NotClean, function, plane)
                refused(self, NotClean, function, plane=as_tuples(plane))
            for _, plane in NOT_TABLED:
                refused_limit(self, "degree", 4, function, plane)

    def test_is_whole_returns_a_bool(self):
        check_judge(self, is_whole, [plane for plane, _ in FEW])

    def test_what_is_passed_stays_and_what_is_returned_is_new(self):
        for plane, _ in FEW:
            for function in ALL:
                wanted = check_call(self, function, [plane])
                self.assertEqual(check_call(self, function, [as_tuples(plane)]), wanted)


if __name__ == "__main__":
    unittest.main()
