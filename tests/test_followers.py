"""Followers of curves: what is one, pairs, how many are free, how each is made of a pair."""

import unittest

from curvepieces.curves import by_time, curve_degree
from curvepieces.errors import InvalidCurve, InvalidFollower, InvalidMany, InvalidPair
from curvepieces.followers import by_pair, follower_count, follower_degrees, followers, is_follower, is_pair
from curvepieces.lines import is_line
from tests import plain
from tests.support import (NOT_CURVES, NOT_INTEGERS, NOT_LINES, STRANGE, Dice, as_tuples, check_call, check_judge,
                           check_parameters, exactly, refused_value)
from tests.test_curves import CIRCLE, CURVES, CUSP, STRAIGHT, mixed_curves

PAIR = ([[0, 1], [-1], [0, 1]], [[-1], [0, -1], [1]])
CUSP_PAIR = ([[0, 1], [-1], []], [[1], [], [0, 0, -1]])

# What is no follower of the circle.
NOT_FOLLOWERS = STRANGE + [0, 1, [1], [[]], [[], []], [[], [], [], []], [[0, 1], [-1]], [[0, 1], [-1], [0, 2]],
                           [[0, 1], [-1], [0, 1], []], [[1], [], []], [[0, -1], [-1], [0, 1]], [[0, 1], [-1], [0, True]],
                           [[0, 1], [-1, 0], [0, 1]], [[0, 1], [-1], None], [[0], [0], [0]], [[0, 1], -1, [0, 1]],
                           [[0, 1], ["-1"], [0, 1]], {0: [0, 1], 1: [-1], 2: [0, 1]}, [[[0, 1]], [[-1]], [[0, 1]]],
                           [[0] * 9 + [1], [0] * 8 + [-1], [0] * 9 + [1]], CIRCLE, PAIR]

NOT_PAIRS = STRANGE + [0, 1, [], (), list(PAIR), PAIR[:1], PAIR + PAIR[:1], (PAIR[0], PAIR[0]), ([[], [], []], PAIR[1]),
                       (PAIR[0], [[], [], []]), ([[], [], []], [[], [], []]), (PAIR[0], None), (None, PAIR[1]), PAIR[0],
                       (PAIR[0], [[1], [], []]), (PAIR[0], [[-1], [0, -1], [True]]), (PAIR[0], [[0, 0, 1], [0, -1], [0, 0, 1]]),
                       (PAIR[0], [[-7], [0, -7], [8]]), (PAIR[0], [[0, -1], [0, 0, -1], [0, 1]]), {0: PAIR[0], 1: PAIR[1]},
                       (PAIR[0], [[0, 5], [-5], [0, 5]]), ((), ()), (1, 2), [[PAIR]], (PAIR,), CIRCLE, tuple(CIRCLE)]


def total(one, two):
    """Both lists of three lines multiplied place by place, added."""
    result = []
    for a, b in zip(one, two):
        result = plain.plus(result, plain.times(a, b))
    return result


def top(lines):
    return max(len(line) for line in lines) - 1


def cross(one, two):
    (p, q, r), (s, u, v) = one, two

    def less(a, b, c, d):
        return plain.plus(plain.times(a, b), plain.times([-1], plain.times(c, d)))
    return [less(q, v, r, u), less(r, s, p, v), less(p, u, q, s)]


def times(line, follower):
    return [plain.times(line, part) for part in follower]


def plus(one, two):
    return [plain.plus(a, b) for a, b in zip(one, two)]


def is_number_times(lines, curve):
    """Whether the lines are a number, not 0, times the curve."""
    place = [at for at, line in enumerate(curve) if line][0]
    if len(lines[place]) != len(curve[place]):
        return False
    a, b = lines[place][-1], curve[place][-1]
    return [plain.times([b], line) for line in lines] == [plain.times([a], line) for line in curve]


def free_many(curve, most):
    """How many followers of a degree at most this are free, by a table of fractions."""
    size = most + 1
    columns = [[0] * power + line + [0] * 20 for line in curve for power in range(size)]
    rows = [[column[at] for column in columns] for at in range(6 + size)]
    return 3 * size - len(plain.bound(rows, 3 * size))


ALL = CURVES + mixed_curves(130, 25) + [by_time(CIRCLE, [3, 0, 1]), by_time(STRAIGHT, [1, 0, 0, 0, 0, 2])]


class FollowerTest(unittest.TestCase):

    def test_followers(self):
        for curve in ALL:
            first, second = followers(curve)
            for line in ([1], [-6], [0, 1], [3, 0, -2]):
                for other in ([], [1], [5, 1]):
                    made = plus(times(line, first), times(other, second))
                    self.assertEqual(total(made, curve), [])
                    self.assertIs(is_follower(curve, made), True)
                    self.assertIs(is_follower(value=as_tuples(made), curve=as_tuples(curve)), True)

    def test_by_words(self):
        dice, seen = Dice(131), []
        for curve in ALL:
            first, second = followers(curve)
            for _ in range(10):
                value = plus(times(dice.line(dice.roll(-1, 3), 3), first), times(dice.line(dice.roll(-1, 2), 3), second))
                if dice.roll(0, 1):
                    value[dice.roll(0, 2)] = dice.line(dice.roll(-1, 3), 3)
                told = is_follower(curve, value)
                self.assertIs(told, total(value, curve) == [] and top(value) <= 8)
                seen.append(told)
        self.assertGreater(min(seen.count(True), seen.count(False)), 50)

    def test_nought(self):
        for curve in ALL:
            self.assertIs(is_follower(curve, [[], [], []]), True)
            self.assertIs(is_follower(curve, ((), (), ())), True)

    def test_degrees_eight_and_nine(self):
        for curve in ALL:
            first = followers(curve)[0]
            power = 8 - top(first)
            self.assertIs(is_follower(curve, times([0] * power + [1], first)), True)
            self.assertIs(is_follower(curve, times([1] + [0] * power + [1], first)), False)
            self.assertEqual(total(times([0] * (power + 1) + [1], first), curve), [])

    def test_any_value(self):
        check_judge(self, is_follower, NOT_FOLLOWERS, CIRCLE)
        for value in NOT_FOLLOWERS:
            self.assertIs(is_follower(CIRCLE, value), False, value)
        for wrong in NOT_LINES:
            self.assertIs(is_follower([[], [0, 1], [1]], [wrong, [], []]), False)
            self.assertIs(is_follower([[0, 1], [1], []], [[], [], wrong]), False)

    def test_a_straight_line_follows_itself(self):
        for curve in (STRAIGHT, [[0, 1], [1], []], [[], [0, 1], [1]], [[0, 0, 1], [0, 0, 2], [1]]):
            self.assertEqual(follower_degrees(curve), (0, curve_degree(curve)))
            first = followers(curve)[0]
            self.assertEqual(top(first), 0)
        self.assertIs(is_follower(STRAIGHT, [[], [5], [-5]]), True)


class PairTest(unittest.TestCase):

    def test_told_pairs(self):
        for curve in ALL:
            told = followers(curve)
            first, second = told
            self.assertEqual([part.__class__ for part in (told, first, second)], [tuple, list, list])
            for line in first + second:
                self.assertIs(line.__class__, list)
                self.assertIs(is_line(line), True)
            self.assertEqual((len(told), len(first), len(second)), (2, 3, 3))
            self.assertEqual([total(first, curve), total(second, curve)], [[], []])
            self.assertLessEqual(top(first), top(second))
            self.assertEqual(top(first) + top(second), curve_degree(curve))
            self.assertEqual((top(first), top(second)), follower_degrees(curve))
            self.assertTrue(is_number_times(cross(first, second), curve))
            self.assertIs(is_pair(curve, told), True)
            self.assertIs(is_pair(value=as_tuples(told), curve=as_tuples(curve)), True)
            self.assertIs(is_pair(curve, list(told)), False)
            self.assertIs(is_pair(curve, (tuple(first), second)), True)

    def test_degrees(self):
        for curve in ALL:
            told = follower_degrees(curve=curve)
            self.assertEqual(exactly(told)[0], "tuple")
            least = [most for most in range(6) if free_many(curve, most)][0]
            self.assertEqual(told, (least, curve_degree(curve) - least))
        self.assertEqual([follower_degrees(curve) for curve in (CIRCLE, CUSP, STRAIGHT)], [(1, 1), (1, 2), (0, 1)])
        self.assertTrue({(0, 1), (1, 1), (1, 2), (0, 2), (2, 2), (1, 3), (2, 3), (0, 5), (1, 4)} <=
                        {follower_degrees(curve) for curve in ALL + [[[0, 0, 0, 0, 1], [0, 0, 0, 1], [1]],
                                                                     [[0, 0, 0, 0, 0, 1], [0, 0, 0, 0, 1], [1]]]})

    def test_other_pairs(self):
        dice = Dice(132)
        for curve in ALL:
            first, second = followers(curve)
            lesser, greater = follower_degrees(curve)
            made = plus(times([dice.roll(1, 9)], second), times(dice.line(greater - lesser, 9), first))
            if top(made) == greater:
                self.assertIs(is_pair(curve, (first, made)), True)
                self.assertIs(is_pair(curve, (times([-30], first), times([7], made))), True)
            self.assertIs(is_pair(curve, (second, first)), lesser == greater)
            self.assertIs(is_pair(curve, (first, first)), False)
            self.assertIs(is_pair(curve, (first, times([0, 1], second))), False)
            self.assertIs(is_pair(curve, (times([0, 1], first), second)), False)
            self.assertIs(is_pair(curve, (first, times([0] * (greater - lesser) + [1], first))), False)
            self.assertIs(is_pair(curve, ([[], [], []], second)), False)
            self.assertIs(is_pair(curve, (first, second, second)), False)

    def test_told_ones(self):
        self.assertIs(is_pair(CIRCLE, PAIR), True)
        self.assertIs(is_pair(CIRCLE, PAIR[::-1]), True)
        self.assertIs(is_pair(CUSP, CUSP_PAIR), True)
        self.assertIs(is_pair(CUSP, CUSP_PAIR[::-1]), False)
        self.assertIs(is_pair(CIRCLE, CUSP_PAIR), False)
        self.assertIs(is_pair(CIRCLE, ([[0, 1], [-1], [0, 1]], [[0, 5], [-5], [0, 5]])), False)

    def test_any_value(self):
        wrong = NOT_PAIRS + [(value, PAIR[1]) for value in NOT_FOLLOWERS] + [(PAIR[0], value) for value in NOT_FOLLOWERS]
        check_judge(self, is_pair, wrong, CIRCLE)
        for value in wrong:
            self.assertIs(is_pair(CIRCLE, value), False, value)


class CountTest(unittest.TestCase):

    def test_by_the_table(self):
        for curve in ALL:
            for most in range(9):
                self.assertEqual(exactly(follower_count(curve, most)), exactly(free_many(curve, most)))

    def test_told_ones(self):
        self.assertEqual([follower_count(CUSP, most) for most in range(9)], [0, 1, 3, 5, 7, 9, 11, 13, 15])
        self.assertEqual([follower_count(STRAIGHT, many=most) for most in range(4)], [1, 3, 5, 7])
        self.assertEqual([follower_count(many=most, curve=CURVES[6]) for most in range(7)], [1, 2, 3, 4, 5, 7, 9])

    def test_bounds(self):
        for wrong in NOT_INTEGERS + [-1, 9, 10, -10 ** 29, 10 ** 29]:
            refused_value(self, InvalidMany, wrong, follower_count, CIRCLE, wrong)
            refused_value(self, InvalidMany, wrong, follower_count, many=wrong, curve=as_tuples(CIRCLE))


class ByPairTest(unittest.TestCase):

    def check(self, curve, pair, follower):
        """Multiplied out, it is the follower; nothing less than the number does; what was told."""
        told = by_pair(curve, pair, follower)
        number, one, two = told
        self.assertEqual([part.__class__ for part in (told, number, one, two)], [tuple, int, list, list])
        self.assertGreater(number, 0)
        self.assertIs(is_line(one) and is_line(two), True)
        self.assertEqual(plus(times(one, pair[0]), times(two, pair[1])), times([number], follower))
        for part in range(2, 40):
            if number % part == 0:
                self.assertTrue(any(part_number % part for part_number in one + two))
        return told

    def test_mixed(self):
        dice = Dice(133)
        for curve in ALL:
            first, second = followers(curve)
            lesser, greater = follower_degrees(curve)
            pairs = [(first, second), (times([6], first), times([-4], second))]
            made = plus(times([3], second), times(dice.line(greater - lesser, 9), first))
            if top(made) == greater:
                pairs.append((times([-2], first), made))
            for pair in pairs:
                for _ in range(3):
                    one, two = dice.line(dice.roll(-1, 8 - lesser), 9), dice.line(dice.roll(-1, 8 - greater), 9)
                    follower = plus(times(one, first), times(two, second))
                    self.check(curve, pair, follower)
                    if pair == (first, second):
                        self.assertEqual(by_pair(follower=as_tuples(follower), pair=as_tuples(pair),
                                                 curve=as_tuples(curve)), (1, one, two))

    def test_the_least_number(self):
        # Each made greater by a number of its own.
        for curve in ALL:
            first, second = followers(curve)
            pair = (times([6], first), times([-10], second))
            self.assertEqual(self.check(curve, pair, first), (6, [1], []))
            self.assertEqual(self.check(curve, pair, second), (10, [], [-1]))
            self.assertEqual(self.check(curve, pair, plus(first, second)), (30, [5], [-3]))
            self.assertEqual(self.check(curve, pair, plus(times([2, 3], first), times([5], second))), (6, [2, 3], [-3]))
            self.assertEqual(self.check(curve, pair, times([12], first)), (1, [2], []))

    def test_of_the_pair_and_of_nought(self):
        for curve in ALL:
            pair = followers(curve)
            self.assertEqual(exactly(by_pair(curve, pair, pair[0])), exactly((1, [1], [])))
            self.assertEqual(exactly(by_pair(curve, pair, pair[1])), exactly((1, [], [1])))
            self.assertEqual(exactly(by_pair(curve, pair, [[], [], []])), exactly((1, [], [])))

    def test_told_ones(self):
        self.assertEqual(by_pair(CIRCLE, PAIR, [[0, 1], [-2, 0, -1], [0, 3]]), (1, [2], [0, 1]))
        self.assertEqual(by_pair(CIRCLE, ([[0, 2], [-2], [0, 2]], PAIR[1]), PAIR[0]), (2, [1], []))
        self.assertEqual(by_pair(CUSP, CUSP_PAIR, [[], [1], [0, 0, 0, -1]]), (1, [-1], [0, 1]))

    def test_of_degrees_eight_and_nine(self):
        for curve in ALL:
            pair = followers(curve)
            power = 8 - top(pair[0])
            self.assertEqual(self.check(curve, pair, times([0] * power + [1], pair[0])), (1, [0] * power + [1], []))
            wrong = times([0] * (power + 1) + [1], pair[0])
            refused_value(self, InvalidFollower, wrong, by_pair, curve, pair, wrong)


class ConventionsTest(unittest.TestCase):

    def test_parameters(self):
        curve = ("curve", CIRCLE, NOT_CURVES, InvalidCurve)
        for function in (follower_degrees, followers):
            check_parameters(self, function, [curve])
        for function in (is_follower, is_pair):
            for value in (PAIR, None, 7):
                check_parameters(self, function, [curve, ("value", value, [], None)])
        check_parameters(self, follower_count, [curve, ("many", 8, NOT_INTEGERS + [-1, 9, 10 ** 29], InvalidMany)])
        check_parameters(self, by_pair, [curve, ("pair", PAIR, NOT_PAIRS, InvalidPair),
                                         ("follower", PAIR[1], NOT_FOLLOWERS, InvalidFollower)])

    def test_what_belongs_to_another_curve(self):
        refused_value(self, InvalidPair, PAIR, by_pair, CUSP, PAIR, PAIR[0])
        refused_value(self, InvalidPair, CUSP_PAIR, by_pair, CIRCLE, CUSP_PAIR, PAIR[0])
        refused_value(self, InvalidFollower, CUSP_PAIR[0], by_pair, CIRCLE, PAIR, CUSP_PAIR[0])
        refused_value(self, InvalidFollower, PAIR[0], by_pair, CUSP, CUSP_PAIR, PAIR[0])

    def test_what_is_passed_stays_and_what_is_returned_is_new(self):
        for curve in ALL:
            pair = followers(curve)
            for function, given in ((followers, [curve]), (follower_degrees, [curve]), (follower_count, [curve, 4]),
                                    (is_follower, [curve, pair[0]]), (is_pair, [curve, pair]),
                                    (by_pair, [curve, pair, pair[1]]),
                                    (by_pair, [curve, pair, [[], [], []]])):
                wanted = check_call(self, function, given)
                self.assertEqual(check_call(self, function, [as_tuples(part) for part in given]), wanted)


if __name__ == "__main__":
    unittest.main()
