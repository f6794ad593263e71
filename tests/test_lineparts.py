"""Parts of lines: plain parts, whole roots, monic parts."""

import unittest
from itertools import combinations_with_replacement, product

from curvepieces.errors import InvalidLine, ZeroLine
from curvepieces.lineparts import monic_parts, plain_parts, whole_roots
from curvepieces.lines import plain_line
from tests import plain
from tests.support import NOT_LINES, Dice, check_call, check_parameters, refused

# Lines, plain and whole, no two of them alike.
WHOLE = [[0, 1], [-1, 1], [2, 1], [1, 3], [-5, 2], [1, 0, 1], [-2, 0, 1], [1, 1, 1], [3, 1, 2], [-2, 0, 0, 1],
         [1, 1, 0, 1], [1, 0, 0, 0, 1]]

# What is a line, but none that monic_parts lets.
NOT_MONIC = NOT_LINES + [[], (), [1], [7], (-1,), [1, 2], [0, -1], (1, 0, 3), [1, 0, 0, 0, -1], [2, 0, 0, 0, 2],
                         [0, 0, 0, 0, 0, 1], [1] * 6, (1,) * 13]


class PlainPartsTest(unittest.TestCase):

    def check(self, line):
        """What the point tells: the product, plain, no double roots, no common parts, unlike powers, sorted."""
        told = plain_parts(line)
        self.assertEqual(told, sorted(told))
        self.assertEqual(len({times for _, times in told}), len(told))
        whole = [1]
        for part, times in told:
            self.assertGreater(len(part), 1)
            self.assertGreater(times, 0)
            self.assertEqual(plain_line(part), part)
            self.assertEqual(plain.common_degree(part, plain.slope(part)), 0)
            whole = plain.times(whole, plain.times_all([part] * times))
        self.assertEqual(whole, plain_line(line))
        for at, (part, _) in enumerate(told):
            for other, _ in told[at + 1:]:
                self.assertEqual(plain.common_degree(part, other), 0)
        return told

    def test_told_parts(self):
        dice = Dice(10)
        for _ in range(150):
            powers, left = {}, 12
            for _ in range(dice.roll(0, 4)):
                part, times = WHOLE[dice.roll(0, len(WHOLE) - 1)], dice.roll(1, 5)
                size = (len(part) - 1) * times
                if size <= left and part not in [p for parts in powers.values() for p in parts]:
                    powers.setdefault(times, []).append(part)
                    left -= size
            wanted = sorted([(plain.times_all(parts), times) for times, parts in powers.items()])
            factor = dice.roll(1, 40) * (1 - 2 * dice.roll(0, 1))
            line = [factor * number for number in
                    plain.times_all([part for parts, times in wanted for part in [parts] * times])]
            self.assertEqual(self.check(line), wanted)

    def test_mixed(self):
        dice = Dice(11)
        for _ in range(80):
            self.check(dice.line(dice.roll(0, 12), 999999))
            one = dice.line(dice.roll(0, 3), 9)
            self.check(plain.times_all([one, one, dice.line(2, 9), one]))

    def test_edges(self):
        self.assertEqual(plain_parts([-12]), [])
        self.assertEqual(plain_parts([0] * 12 + [-3]), [([0, 1], 12)])
        self.assertEqual(plain_parts([0, -4]), [([0, 1], 1)])
        self.assertEqual(plain_parts([9, 12, 4]), [([3, 2], 2)])
        self.assertEqual(plain_parts([0, -1, 0, 1]), [([0, -1, 0, 1], 1)])
        self.assertEqual(plain_parts(plain.times_all([[1, 0, 1]] * 2 + [[0, 1]] * 3)),
                         [([0, 1], 3), ([1, 0, 1], 2)])
        self.assertIs(plain_parts((0, 0, -2, 2))[0].__class__, tuple)

    def test_of_nought(self):
        refused(self, ZeroLine, plain_parts, [])
        refused(self, ZeroLine, plain_parts, line=())


class WholeRootsTest(unittest.TestCase):

    def test_by_trying_all_numbers(self):
        # A root times itself is at most 1 more than the greatest number: here all are within 4.
        for line in product(range(-3, 4), repeat=4):
            line = plain.cut(line)
            if line:
                wanted = [root for root in range(-5, 6) if plain.value(line, root) == 0]
                self.assertEqual(whole_roots(line), wanted, line)

    def test_told_roots(self):
        dice = Dice(12)
        for _ in range(150):
            roots = [dice.roll(-30, 30) for _ in range(dice.roll(0, 9))]
            rest = [[1, 0, 1], [-2, 0, 1], [1, 2], [7], [-3, 2]][dice.roll(0, 4)]
            line = plain.times(plain.times_all([[-root, 1] for root in roots]), rest)
            self.assertEqual(whole_roots(line), sorted(set(roots)), roots)

    def test_great_roots(self):
        for roots in ([-999999, 999999], [123456, 123457, 123459], [10 ** 29, 10 ** 29 + 1, -10 ** 29], [0, 1, 2]):
            line = plain.times_all([[-root, 1] for root in roots] + [[-3, 0, 5], [10 ** 12 - 1, 10 ** 12]])
            self.assertEqual(whole_roots(line), sorted(roots))
            self.assertEqual(whole_roots([-7 * number for number in line]), sorted(roots))

    def test_many_roots_side_by_side(self):
        line = plain.times_all([[-root, 1] for root in range(-6, 6)])
        self.assertEqual(whole_roots(line), list(range(-6, 6)))

    def test_each_once(self):
        self.assertEqual(whole_roots([0] * 12 + [5]), [0])
        self.assertEqual(whole_roots(plain.times_all([[3, 1]] * 6 + [[-4, 1]] * 6)), [-3, 4])
        self.assertEqual(whole_roots(plain.times_all([[3, 1]] * 5 + [[-4, 1]] * 2)), [-3, 4])

    def test_without(self):
        for line in ([8], [-1], [1, 2], [-2, 0, 1], [1, 0, 1], [-1, 0, 2], [5, 0, 0, 1], [-1, 4], [1, -4, 2]):
            self.assertEqual(whole_roots(line), [])

    def test_of_nought(self):
        refused(self, ZeroLine, whole_roots, [])
        refused(self, ZeroLine, whole_roots, line=())


def parts_by_trying(line):
    """The monic parts of a line of degree to 4 with small numbers, by trying all of degree 1, then all of degree 2."""
    found, rest = [], list(line)
    for root in range(-20, 21):
        while len(rest) > 1 and plain.value(rest, root) == 0:
            rest = plain.cut([int(number) for number in plain.divided(rest, [-root, 1])[0]])
            found.append([-root, 1])
    if len(rest) == 5:
        for q in [k for k in range(-20, 21) if k != 0 and rest[0] % k == 0]:
            for p in range(-12, 13):
                quotient, left = plain.divided(rest, [q, p, 1])
                if left == []:
                    return sorted([[q, p, 1], [int(number) for number in quotient]])
    return sorted(found + ([rest] if len(rest) > 1 else []))


class MonicPartsTest(unittest.TestCase):

    def test_by_trying_all_parts(self):
        for size in (1, 2, 3, 4):
            most = 3 if size == 4 else 6
            for numbers in product(range(-most, most + 1), repeat=size):
                line = list(numbers) + [1]
                self.assertEqual(monic_parts(line), parts_by_trying(line), line)

    def test_products_of_two_of_degree_two(self):
        whole = [[q, p, 1] for q in range(-6, 7) for p in range(-4, 5) if len(parts_by_trying([q, p, 1])) == 1]
        for one, two in combinations_with_replacement(whole, 2):
            self.assertEqual(monic_parts(plain.times(one, two)), sorted([one, two]), (one, two))

    def test_great_numbers(self):
        one, two = [999983, -123457, 1], [10 ** 20 + 39, 7, 1]
        self.assertEqual(monic_parts(plain.times(one, two)), sorted([one, two]))
        self.assertEqual(monic_parts(plain.times(one, one)), [one, one])
        self.assertEqual(monic_parts(plain.times_all([[-10 ** 29, 1], [10 ** 29, 1], one])),
                         [[-10 ** 29, 1], one, [10 ** 29, 1]])
        self.assertEqual(monic_parts([-2 * 10 ** 29, 0, 0, 0, 1]), [[-2 * 10 ** 29, 0, 0, 0, 1]])

    def test_each_as_often_as_it_goes_in(self):
        self.assertEqual(monic_parts([0, 0, 0, 0, 1]), [[0, 1]] * 4)
        self.assertEqual(monic_parts([1, 4, 6, 4, 1]), [[1, 1]] * 4)
        self.assertEqual(monic_parts([4, 0, -4, 0, 1]), [[-2, 0, 1], [-2, 0, 1]])
        self.assertEqual(monic_parts([0, 0, 1, 1, 1]), [[0, 1], [0, 1], [1, 1, 1]])
        told = monic_parts([4, 0, -4, 0, 1])
        self.assertIsNot(told[0], told[1])

    def test_whole_ones(self):
        for line in ([5, 1], [-2, 0, 1], [-2, 0, 0, 1], [1, 1, 0, 1], [1, 0, 0, 0, 1], [-2, 0, 0, 0, 1],
                     [1, 1, 1, 1, 1], [1, 0, -10, 0, 1]):
            self.assertEqual(monic_parts(line), [line])
            self.assertEqual(monic_parts(line=tuple(line)), [line])

    def test_refused(self):
        check_parameters(self, monic_parts, [("line", [0, 1], NOT_MONIC, InvalidLine)])


class ConventionsTest(unittest.TestCase):

    def test_refused(self):
        for function in (plain_parts, whole_roots):
            check_parameters(self, function, [("line", [0, 1], NOT_LINES, InvalidLine)])

    def test_what_is_passed_stays_and_what_is_returned_is_new(self):
        for line in ([0, 1], [4, 0, -4, 0, 1], [0, 0, -2, 1], [1, 0, 0, 0, 1], [6, -5, 1], [0, 0, 1, 1, 1], [-2, 0, 1]):
            for function in (plain_parts, whole_roots, monic_parts):
                wanted = check_call(self, function, [line])
                self.assertEqual(check_call(self, function, [tuple(line)]), wanted)
                self.assertIs(wanted.__class__, list)
        for line in ([5], [0, 0, -2, 2], [9, 12, 4], [-1, 0, 2]):
            for function in (plain_parts, whole_roots):
                self.assertEqual(check_call(self, function, [tuple(line)]), check_call(self, function, [line]))


if __name__ == "__main__":
    unittest.main()
