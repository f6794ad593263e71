"""Letters exchanged and changed."""

import unittest
from itertools import product

from curvepieces.errors import InvalidChange, InvalidPlane
from curvepieces.letters import changed, exchanged, is_change
from curvepieces.planes import degrees, plane_times, plane_value
from tests import plain
from tests.support import (NOT_CHANGES, NOT_PLANES, Dice, as_tuples, check_call, check_judge, check_parameters,
                           refused_limit)

PLANES = [[], [[5]], [[0, 1]], [[], [1]], [[0, 0, -2], [], [1]], [[1, 2, 3], [4]], [[], [], [0, 6]], [[-1, 0, 1], [2]],
          [[0, 1], [0, 0, 0, 2]], [[3], [1, 1, 1], [], [2]]]

CHANGES = [[1, 0, 0, 0, 1, 0], [0, 1, 0, 1, 0, 0], [1, 1, 0, 1, -1, 0], [2, 0, 3, 0, -5, 1], [0, 1, 7, 1, 0, -7],
           [1, 2, 3, 3, 4, 5], [-1, 0, 0, 0, -1, 0], [999999, 1, 0, 1, 1, -999999]]


def changed_plainly(plane, change):
    """The changed plane, by products of dicts."""
    a, b, c, d, e, k = change
    x, y = {(1, 0): a, (0, 1): b, (0, 0): c}, {(1, 0): d, (0, 1): e, (0, 0): k}
    result = {}
    for (i, j), number in plain.spread(plane).items():
        term = {(0, 0): number}
        for factor in [x] * i + [y] * j:
            term = plain.spread_times(term, factor)
        result = plain.spread_plus(result, term)
    return plain.gathered(result)


class ExchangedTest(unittest.TestCase):

    def test_powers_change_places(self):
        for plane in PLANES:
            wanted = plain.gathered({(j, i): number for (i, j), number in plain.spread(plane).items()})
            self.assertEqual(exchanged(plane), wanted)
            self.assertEqual(exchanged(exchanged(plane)), plane)

    def test_told_ones(self):
        self.assertEqual(exchanged([[1, 2, 3]]), [[1], [2], [3]])
        self.assertEqual(exchanged([[], [], [4]]), [[0, 0, 4]])
        self.assertEqual(exchanged([]), [])
        self.assertEqual(exchanged([[-7]]), [[-7]])
        self.assertEqual(exchanged([[0, 0, 1], [1]]), [[0, 1], [], [1]])
        great = [[]] * 8 + [[0] * 8 + [1]]
        self.assertEqual(exchanged(great), great)


class IsChangeTest(unittest.TestCase):

    def test_changes(self):
        for change in CHANGES:
            self.assertIs(is_change(change), True)
            self.assertIs(is_change(tuple(change)), True)
        self.assertIs(is_change(value=[1, 0, 10 ** 29, 0, -1, 0]), True)

    def test_none(self):
        check_judge(self, is_change, NOT_CHANGES)
        for value in NOT_CHANGES:
            self.assertIs(is_change(value), False, value)

    def test_only_these_four_numbers_matter(self):
        for a, b, d, e in product(range(-2, 3), repeat=4):
            for c, k in ((0, 0), (5, -3)):
                self.assertIs(is_change([a, b, c, d, e, k]), a * e != b * d)


class ChangedTest(unittest.TestCase):

    def test_all_by_all(self):
        for plane, change in product(PLANES, CHANGES):
            told = changed(plane, change)
            self.assertEqual(told, changed_plainly(plane, change))
            a, b, c, d, e, k = change
            for x, y in ((0, 0), (1, 2), (-3, 4)):
                self.assertEqual(plane_value(told, x, y), plane_value(plane, a * x + b * y + c, d * x + e * y + k))

    def test_mixed(self):
        dice = Dice(30)
        for _ in range(60):
            m = dice.roll(0, 4)
            plane, change = dice.plane(m, dice.roll(0, 8 - m), 9), CHANGES[dice.roll(0, 7)]
            self.assertEqual(changed(plane, change), changed_plainly(plane, change))

    def test_facts(self):
        dice = Dice(31)
        for change in CHANGES:
            one, two = dice.plane(2, 1, 5), dice.plane(1, 2, 5)
            for plane in (one, two):
                self.assertEqual(max(i + j for i, j in plain.spread(changed(plane, change))),
                                 max(i + j for i, j in plain.spread(plane)))
            self.assertEqual(changed(plane_times(one, two), change),
                             plane_times(changed(one, change), changed(two, change)))

    def test_both_at_once(self):
        self.assertEqual(changed([[0, 2], [1]], [0, 1, 0, 1, 0, 0]), [[0, 1], [2]])
        self.assertEqual(changed([[], [0, 1]], [1, 1, 0, 1, 2, 0]), [[0, 0, 2], [0, 3], [1]])
        self.assertEqual(changed([[1]], [1, 2, 3, 3, 4, 5]), [[1]])
        self.assertEqual(changed([], [1, 2, 3, 3, 4, 5]), [])

    def test_the_degrees_are_at_most_eight(self):
        turn, shift = [1, 1, 0, 1, -1, 0], [1, 0, 1, 0, 2, 3]
        for m, n in product(range(9), range(9)):
            plane = [[]] * m + [[0] * n + [1]]
            self.assertEqual(degrees(changed(plane, shift)), (m, n))
            if m + n <= 8:
                self.assertEqual(changed(plane, turn), changed_plainly(plane, turn))
            else:
                refused_limit(self, "degree", 8, changed, plane, turn)
                refused_limit(self, "degree", 8, changed, change=tuple(turn), plane=as_tuples(plane))

    def test_a_degree_that_goes_on_the_way_is_let(self):
        # x becomes x + y, y stays: only the degree in y grows, in the terms that have both letters.
        refused_limit(self, "degree", 8, changed, [[], [0] * 8 + [1]], [1, 1, 0, 0, 1, 0])
        self.assertEqual(degrees(changed([[], [0] * 7 + [1]], [1, 1, 0, 0, 1, 0])), (1, 8))
        # Of x to the 5, y to the 4 less x to the 4, y to the 5 comes x (x + y) to the 4, y to the 4: y to the 9 goes.
        told = changed([[], [], [], [], [0] * 5 + [-1], [0] * 4 + [1]], [1, 1, 0, 0, 1, 0])
        self.assertEqual(told, [[], [0] * 8 + [1], [0] * 7 + [4], [0] * 6 + [6], [0] * 5 + [4], [0] * 4 + [1]])


class ConventionsTest(unittest.TestCase):

    def test_refused(self):
        check_parameters(self, exchanged, [("plane", [[0, 1], [2]], NOT_PLANES, InvalidPlane)])
        check_parameters(self, changed, [("plane", [[0, 1], [2]], NOT_PLANES, InvalidPlane),
                                         ("change", (1, 0, 0, 0, 1, 0), NOT_CHANGES, InvalidChange)])
        great = [[]] * 8 + [[0] * 8 + [1]]
        check_parameters(self, changed, [("plane", great, NOT_PLANES, InvalidPlane),
                                         ("change", [1, 1, 0, 1, -1, 0], NOT_CHANGES, InvalidChange)])

    def test_what_is_passed_stays_and_what_is_returned_is_new(self):
        for plane in PLANES:
            wanted = check_call(self, exchanged, [plane])
            self.assertEqual(check_call(self, exchanged, [as_tuples(plane)]), wanted)
            for change in CHANGES:
                wanted = check_call(self, changed, [plane, change])
                self.assertEqual(check_call(self, changed, [as_tuples(plane), tuple(change)]), wanted)


if __name__ == "__main__":
    unittest.main()
