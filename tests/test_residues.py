"""Planes modulo a prime: what they are, whether they are clean, how many pieces they have."""

import unittest
from itertools import product

from curvepieces.errors import BadPrime, InvalidPlane, InvalidPrime
from curvepieces.planes import degrees, is_plane, plane_sum
from curvepieces.residues import count_modulo, is_clean_modulo, plane_modulo
from tests import plain
from tests.samples import FEW, WHOLE
from tests.support import (NOT_PLANES, NOT_PRIMES, Dice, as_tuples, check_call, check_parameters, exactly, refused,
                           refused_limit, refused_value)
from tests.test_slopes import wanted_table, wanted_unknowns

LATE, LINE = [[7, 0, -2], [], [1]], [[11, 1], [0, 1]]
PRIMES = [2, 3, 5, 7, 11, 13, 101, 9973]

# Modulo odd primes above 3, but those told: planes with their pieces there, no two of them with a common part.
KNOWN = [([[0, -1], [1]], 1), ([[0, 1], [1]], 1), ([[3, -2], [1]], 1), ([[0, 0, -2], [], [1]], 2),
         ([[-1, 0, 1], [], [1]], 1), ([[1, 1], [0, 1]], 1), ([[0, 0, -1], [], [], [1]], 1), ([[1, 1], [1, 1], [2]], 1)]


def clean_by_trying(plane, prime):
    """Whether no polynomial but numbers goes into the rests and into their slope by x, and they have x."""
    terms = plain.modulo(plain.spread(plane), prime)
    if max([i for i, _ in terms], default=0) < 1:
        return False
    slope = plain.modulo(plain.slope_x(terms), prime)
    m, n = max(i for i, _ in terms), max(j for _, j in terms)
    keys = list(product(range(m + 1), range(n + 1)))
    for numbers in product(range(prime), repeat=len(keys)):
        part = {key: number for key, number in zip(keys, numbers) if number}
        # One of each polynomial and its multiples is enough.
        if part and max(part) != (0, 0) and part[max(part)] == 1:
            if plain.goes_modulo(part, slope, prime) and plain.goes_modulo(part, terms, prime):
                return False
    return True


def count_by_table(plane, prime):
    """All unknowns less those that the table binds modulo the prime."""
    rests = plane_modulo(plane, prime)
    width = len(wanted_unknowns(rests))
    return width - plain.rank_modulo(wanted_table(rests), width, prime)


def bound(plane, prime):
    m, n = degrees(plane_modulo(plane, prime))
    return (2 * m - 1) * n


class PlaneTest(unittest.TestCase):

    def test_rests(self):
        dice = Dice(100)
        for _ in range(60):
            plane = dice.plane(dice.roll(0, 8), dice.roll(0, 8), dice.roll(1, 60))
            for prime in PRIMES:
                told = plane_modulo(plane, prime)
                self.assertEqual(exactly(told), exactly(plain.gathered(plain.modulo(plain.spread(plane), prime))))
                self.assertEqual(plane_modulo(prime=prime, plane=as_tuples(plane)), told)

    def test_numbers_below_nought(self):
        self.assertEqual(plane_modulo([[-1, -2], [-7]], 5), [[4, 3], [3]])
        self.assertEqual(plane_modulo([[-10 ** 29]], 7), [[-10 ** 29 % 7]])
        self.assertEqual(exactly(plane_modulo([[-5, 5, -1], [5, -5], [-4]], 5)), exactly([[0, 0, 4], [], [1]]))

    def test_what_becomes_less(self):
        self.assertEqual(plane_modulo([[14]], 7), [])
        self.assertEqual(plane_modulo([], 2), [])
        self.assertEqual(plane_modulo([[2, 4], [], [6, 8]], 2), [])
        self.assertEqual(plane_modulo([[1, 0, 7], [3, 7], [7, 14]], 7), [[1], [3]])
        self.assertEqual(plane_modulo([[], [], [1, 7]], 7), [[], [], [1]])
        self.assertEqual(plane_modulo([[9973, 1], [9973]], 9973), [[0, 1]])


class CleanTest(unittest.TestCase):

    def test_by_trying_all_polynomials(self):
        dice, seen = Dice(101), []
        for prime, m, n, many in ((2, 2, 2, 60), (2, 3, 1, 60), (2, 1, 3, 40), (3, 2, 1, 40), (3, 1, 2, 40),
                                  (2, 4, 0, 16), (3, 4, 0, 30), (5, 2, 0, 30), (5, 1, 1, 30)):
            for _ in range(many):
                plane = dice.plane(m, n, 7)
                told = is_clean_modulo(plane, prime)
                self.assertIs(told, clean_by_trying(plane, prime), (plane, prime))
                seen.append(told)
        self.assertGreater(seen.count(True), 60)
        self.assertGreater(seen.count(False), 60)

    def test_products(self):
        dice = Dice(102)
        for prime in (5, 7, 11, 9973):
            for _ in range(12):
                parts = [KNOWN[dice.roll(0, len(KNOWN) - 1)][0] for _ in range(dice.roll(2, 3))]
                whole = plain.product(*parts)
                if is_plane(whole):
                    unlike = len({str(part) for part in parts}) == len(parts)
                    self.assertIs(is_clean_modulo(whole, prime), unlike, (whole, prime))

    def test_of_great_degrees(self):
        lines = [[[0, -k], [1]] for k in range(8)]
        whole = plain.product(*lines)
        for prime in PRIMES:
            self.assertIs(is_clean_modulo(whole, prime), prime > 7)
        dice = Dice(103)
        part = dice.plane(4, 4, 999999)
        self.assertIs(is_clean_modulo(plain.product(part, part), 9973), False)
        self.assertIs(is_clean_modulo(plain.product(part, dice.plane(4, 4, 999999)), 9973), True)
        self.assertIs(is_clean_modulo(plain.product(part, dice.plane(3, 4, 999999), [[5], [1]]), 9967), True)
        self.assertIs(is_clean_modulo(plain.product(part, [[5, 1]]), 9967), False)

    def test_slopes_that_are_nought(self):
        # The slope of x to the p is nought; that of x to the p less x is a number.
        for prime in (2, 3, 5, 7):
            power = [[]] * prime + [[1]]
            self.assertIs(is_clean_modulo([[0, 1]] + power[1:], prime), False)
            self.assertIs(is_clean_modulo([[0, 1], [-1]] + power[2:], prime), True)
            self.assertIs(is_clean_modulo([[0, 1], [prime]] + power[2:], prime), False)
            self.assertIs(is_clean_modulo([[0, 1], [0, 1]] + power[2:], prime), True)
            self.assertIs(is_clean_modulo([[0, 1], [0, 1]] + [[]] * (prime - 2) + [[0, 1]], prime), False)
        self.assertIs(is_clean_modulo([[1], [0, 1], [1]], 2), True)

    def test_without_x(self):
        for plane in ([], [[1]], [[0, 1]], [[1, 2], [7], [14]], [[1, 2], [0, 7], [0, 0, 14]], [[14]], [[7], [14]]):
            self.assertIs(is_clean_modulo(plane, 7), False)

    def test_parts_free_of_x(self):
        self.assertIs(is_clean_modulo(LINE, 11), False)
        for prime in (2, 3, 7, 13):
            self.assertIs(is_clean_modulo(LINE, prime), True)
        self.assertIs(is_clean_modulo([[1, 8], [2, 9]], 7), False)
        self.assertIs(is_clean_modulo([[1, 7], [2, 14]], 7), True)

    def test_double_modulo_the_prime_alone(self):
        for plane in ([[0, 0, -7], [], [1]], [[-7], [], [1]], [[0, 0, 1], [0, 5], [1]],
                      plain.product([[0, -1], [1]], [[7, -1], [1]])):
            self.assertIs(is_clean_modulo(plane, 7), False)
            self.assertIs(is_clean_modulo(plane=plane, prime=11), True)
        self.assertIs(is_clean_modulo([[7, 0, -2], [], [1]], 2), False)


class CountTest(unittest.TestCase):

    def test_products_of_known_ones(self):
        dice, seen = Dice(104), set()
        for prime in (13, 17, 23, 101, 9973):
            for one, two in product(KNOWN, KNOWN):
                whole = plain.product(one[0], two[0])
                if one < two and max(degrees(whole)) <= 4 and prime > bound(whole, prime):
                    wanted = one[1] + two[1]
                    self.assertEqual(count_modulo(whole, prime), wanted, (whole, prime))
                    more = [[prime * number for number in line] for line in dice.plane(2, 2, 99)]
                    self.assertEqual(count_modulo(plane_sum(whole, more), prime), wanted)
                    seen.add((prime, wanted))
        self.assertTrue({(13, 2), (17, 2), (17, 3), (23, 2), (23, 3), (9973, 2), (9973, 3)} <= seen)

    def test_by_the_table(self):
        dice, many = Dice(105), 0
        for prime in (2, 3, 5, 7, 11, 29, 9973):
            for _ in range(30):
                plane = dice.plane(dice.roll(1, 4), dice.roll(0, 4), 20)
                if is_clean_modulo(plane, prime) and prime > bound(plane, prime):
                    self.assertEqual(count_modulo(plane, prime), count_by_table(plane, prime))
                    more = dice.plane(4, 4, 9)
                    more = [[prime * number for number in line] for line in more]
                    self.assertEqual(count_modulo(plane_sum(plane, more), prime), count_modulo(plane, prime))
                    many += 1
        self.assertGreater(many, 60)

    def test_told_ones(self):
        self.assertEqual([count_modulo(LATE, prime) for prime in (7, 11, 13, 9973)], [2, 1, 1, 1])
        self.assertEqual(exactly(count_modulo(prime=7, plane=as_tuples(LATE))), exactly(2))
        # Over all rests and all roots: it does not matter whether 2 has a root among the rests.
        for prime in (7, 11, 13, 17):
            self.assertEqual(count_modulo([[0, 0, -2], [], [1]], prime), 2)
            self.assertEqual(count_modulo([[0, 0, 1], [], [1]], prime), 2)
        self.assertEqual(count_modulo([[0, 0, 0, 0, 1], [], [], [], [1]], 29), 4)
        self.assertEqual(count_modulo([[0, 0, 0, -2], [], [], [1]], 17), 3)

    def test_without_y(self):
        self.assertEqual(count_modulo([[1], [1], [1]], 2), 2)
        self.assertEqual(count_modulo([[-1], [], [1]], 3), 2)
        self.assertEqual(count_modulo([[0, 5], [1]], 5), 1)
        self.assertEqual(count_modulo([[-1], [0, 3], [0, 0, 6], [], [1]], 3), 4)
        self.assertEqual(count_modulo([[1], [1]], 2), 1)
        refused(self, BadPrime, count_modulo, [[-1], [], [1]], 2)
        refused(self, BadPrime, count_modulo, [[3], [], [1]], 3)

    def test_primes_at_the_bound_and_above(self):
        for plane, least in (([[0, 1], [1], [1]], 3), ([[0, 0, 1], [1]], 2), ([[0, 0, 0, 1], [1]], 3),
                             ([[0, 1], [1], [], [1]], 5), ([[0, 1], [1], [], [], [1]], 7)):
            m, n = degrees(plane)
            self.assertEqual((2 * m - 1) * n, least)
            for prime in PRIMES:
                if prime <= least:
                    refused(self, BadPrime, count_modulo, plane, prime)
                else:
                    self.assertEqual(count_modulo(plane, prime), 1)
            self.assertIs(is_clean_modulo(plane, least), True)

    def test_the_bound_hangs_on_what_is_left(self):
        plane = [[0, 1, 5, 0, 5], [1], [1], [5, 0, 10]]
        self.assertEqual(degrees(plane), (3, 4))
        self.assertEqual(count_modulo(plane, 5), 1)
        refused(self, BadPrime, count_modulo, plane, 3)
        refused(self, BadPrime, count_modulo, plane, 19)
        self.assertEqual(count_modulo(plane, 23), 1)

    def test_not_clean(self):
        for plane in ([], [[1]], [[0, 1]], [[14]], [[1, 2], [7], [14]], [[0, 0, -7], [], [1]], [[0, 0, 1], [0, 2], [1]],
                      [[0, 1], [0, 1]]):
            refused(self, BadPrime, count_modulo, plane, 7)
            refused(self, BadPrime, count_modulo, prime=7, plane=as_tuples(plane))
        refused(self, BadPrime, count_modulo, LINE, 11)
        self.assertEqual(count_modulo(LINE, 13), 1)

    def test_too_many(self):
        five = [[0, 1], [1], [], [], [], [1]]
        for plane in (five, [[0, 0, 0, 0, 0, 1], [1]], [[0, 1], [1]] + [[]] * 6 + [[1]], [[1], [1], [], [], [], [1]]):
            refused_limit(self, "degree", 4, count_modulo, plane, 101)
            refused_limit(self, "degree", 4, count_modulo, prime=9973, plane=as_tuples(plane))
        # A prime that is too small comes first, so does a plane that is not clean.
        refused(self, BadPrime, count_modulo, five, 7)
        refused_limit(self, "degree", 4, count_modulo, five, 11)
        refused(self, BadPrime, count_modulo, [[0, 0, 1]] + [[]] * 4 + [[0, 1]], 101)
        refused(self, BadPrime, count_modulo, [[]] * 5 + [[1]], 101)

    def test_greater_degrees_that_are_four_modulo_the_prime(self):
        plane = [[0, 0, 0, -2, 0, 101], [], [], [], [1], [101]]
        self.assertEqual(degrees(plane), (5, 5))
        self.assertEqual(count_modulo(plane, 101), 1)
        refused_limit(self, "degree", 4, count_modulo, plane, 103)
        plane = [[0, 0, 0, 0, 1]] + [[]] * 3 + [[1]] + [[]] * 3 + [[0] * 8 + [29]]
        self.assertEqual(count_modulo(plane, 29), 4)

    def test_samples_modulo_a_great_prime(self):
        # Modulo a prime that does not divide what matters the count is that over all numbers.
        for plane, many in WHOLE + FEW:
            self.assertEqual(count_modulo(plane, 9973), many)


class ConventionsTest(unittest.TestCase):

    def test_parameters(self):
        for function in (plane_modulo, is_clean_modulo, count_modulo):
            check_parameters(self, function, [("plane", LATE, NOT_PLANES, InvalidPlane),
                                              ("prime", 7, NOT_PRIMES, InvalidPrime)])

    def test_wrong_primes_come_ahead_of_the_errors_of_state(self):
        for plane in ([], [[1]], [[0, 0, -7], [], [1]], [[0, 1], [1], [], [], [], [1]]):
            for wrong in NOT_PRIMES:
                refused_value(self, InvalidPrime, wrong, count_modulo, plane, wrong)

    def test_each_prime_is_let(self):
        primes = [number for number in range(10000) if number > 1 and all(number % part for part in
                                                                          range(2, int(number ** 0.5) + 1))]
        for prime in primes[::40] + [9973]:
            self.assertEqual(plane_modulo([[prime + 1], [1]], prime), [[1], [1]])

    def test_is_clean_modulo_returns_a_bool(self):
        for plane in (LATE, LINE, [], [[1]], [[7]]):
            for prime in PRIMES:
                self.assertIs(is_clean_modulo(plane, prime).__class__, bool)

    def test_what_is_passed_stays_and_what_is_returned_is_new(self):
        for plane in (LATE, LINE, [], [[14]], [[], [], [1, 7]]):
            for prime in PRIMES:
                for function in (plane_modulo, is_clean_modulo):
                    wanted = check_call(self, function, [plane, prime])
                    self.assertEqual(check_call(self, function, [as_tuples(plane), prime]), wanted)
        for plane, _ in FEW:
            check_call(self, count_modulo, [plane, 9973])
            check_call(self, count_modulo, [as_tuples(plane), 9973])


if __name__ == "__main__":
    unittest.main()
