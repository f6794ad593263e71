"""Guards, good primes, the least good one, and what stays modulo such a prime."""

import unittest

from curvepieces.errors import InvalidPlane, InvalidPrime, NotClean
from curvepieces.guards import guards, is_good, least_good, prime_bound
from curvepieces.planes import degrees
from curvepieces.residues import count_modulo, is_clean_modulo, plane_modulo
from curvepieces.slopes import piece_count
from tests import plain
from tests.samples import FEW, SAMPLES
from tests.support import (NOT_PLANES, NOT_PRIMES, Dice, as_tuples, check_call, check_judge, check_parameters, exactly,
                           refused, refused_limit, refused_value)
from tests.test_planeparts import place_by_trying
from tests.test_slopes import NOT_CLEAN, NOT_TABLED, wanted_table, wanted_unknowns

LATE, LINE, TWO = [[7, 0, -2], [], [1]], [[11, 1], [0, 1]], [[-1], [], [1]]
ONE_PLANE = [prime_bound, guards, least_good]
PRIMES = [number for number in range(2, 200) if all(number % part for part in range(2, number))]


def sylvester(one, two):
    m, n = len(one) - 1, len(two) - 1
    return ([[0] * i + one[::-1] + [0] * (n - 1 - i) for i in range(n)] +
            [[0] * i + two[::-1] + [0] * (m - 1 - i) for i in range(m)])


def wanted_guards(plane):
    """By fractions, as the point says."""
    line = plain.cut([plain.value(row, place_by_trying(plane)) for row in plane])
    first = abs(plain.fraction_determinant(sylvester(line, plain.slope(line))))
    table, width = wanted_table(plane), len(wanted_unknowns(plane))
    places = plain.bound(table, width)
    turned = [[row[at] for row in table] for at in range(width)]
    equations = plain.bound(turned, len(table))
    second = abs(plain.fraction_determinant([[table[at][place] for place in places] for at in equations]))
    return [int(first), int(second)]


def is_good_by_words(plane, prime):
    m, n = degrees(plane)
    return prime > (2 * m - 1) * n and all(guard % prime for guard in guards(plane))


class GuardsTest(unittest.TestCase):

    def test_by_fractions(self):
        for plane, _ in SAMPLES[::9] + FEW + [(LATE, 1), (LINE, 1)]:
            told = guards(plane)
            self.assertEqual(exactly(told), exactly(wanted_guards(plane)))
            self.assertGreater(min(told), 0)

    def test_mixed(self):
        dice = Dice(110)
        for m, n in ((1, 0), (1, 1), (2, 1), (1, 2), (2, 2), (3, 2), (3, 0), (4, 1), (1, 4)):
            for most in (3, 99):
                plane = dice.plane(m, n, most)
                try:
                    told = guards(plane)
                except NotClean:
                    continue
                self.assertEqual(told, wanted_guards(plane))

    def test_told_ones(self):
        self.assertEqual(exactly(guards(LATE)), exactly([28, 114688]))
        self.assertEqual(114688, 7 * 2 ** 14)
        self.assertEqual(guards(plane=LINE), [1, 11])
        self.assertEqual(guards([[0, 0, -2], [], [1]]), [8, 8192])

    def test_without_y(self):
        self.assertEqual(guards(TWO), [4, 1])
        self.assertEqual(guards([[4], [2]]), [2, 1])
        self.assertEqual(guards([[4], [-2]]), [2, 1])
        self.assertEqual(guards([[6], [-5], [1]]), [1, 1])
        self.assertEqual(guards([[6], [-5], [3]]), [abs(3 * (25 - 72)), 1])
        self.assertEqual([prime_bound(plane) for plane in (TWO, [[4], [2]], [[1], [], [], [], [1]])], [0, 0, 0])
        self.assertEqual([least_good(plane) for plane in (TWO, [[4], [2]], [[6], [-5], [1]])], [3, 3, 2])

    def test_the_clean_place_is_the_least(self):
        # At 0 the degree is less, at 1 there is a double root.
        plane = [[-1, 1], [], [0, 1]]
        self.assertEqual(guards(plane)[0], 4 * 2 * 2)

    def test_bounds(self):
        for plane, _ in SAMPLES[::7] + FEW:
            m, n = degrees(plane)
            self.assertEqual(exactly(prime_bound(plane)), exactly((2 * m - 1) * n))
        self.assertEqual([prime_bound(plane=plane) for plane in (LATE, LINE, TWO)], [6, 1, 0])
        self.assertEqual(prime_bound([[0, 0, 0, 0, 1], [1]]), 4)
        self.assertEqual(prime_bound([[0, 0, 0, 0, -2], [], [], [], [1]]), 28)

    def test_great_numbers(self):
        plane = Dice(111).plane(2, 2, 999999)
        self.assertEqual(guards(plane), wanted_guards(plane))
        self.assertGreater(guards(plane)[1], 10 ** 30)


class GoodTest(unittest.TestCase):

    def test_by_words(self):
        for plane, _ in SAMPLES[::24] + FEW + [(LATE, 1), (LINE, 1)]:
            for prime in PRIMES[:12] + PRIMES[-2:] + [9973]:
                told = is_good(plane, prime)
                self.assertIs(told, is_good_by_words(plane, prime))
                self.assertIs(is_good(prime=prime, plane=as_tuples(plane)), told)

    def test_primes_at_the_bound(self):
        # Neither guard is a multiple of the prime; it is just not above the bound.
        seen = 0
        for plane in ([[0, 1], [1], [1]], [[0, 0, 1], [1]], [[0, 0, 0, 1], [1]], [[0, 1], [1], [], [1]],
                      [[1, 1], [1], [], [2]], [[3, 1], [1], [], [], [1]]):
            bound = prime_bound(plane)
            self.assertIn(bound, PRIMES)
            self.assertIs(is_good(plane, bound), False)
            seen += all(guard % bound for guard in guards(plane))
        self.assertGreater(seen, 0)

    def test_the_least(self):
        for plane, _ in SAMPLES[::24] + FEW + [(LATE, 1), (LINE, 1)]:
            wanted = [prime for prime in PRIMES if is_good_by_words(plane, prime)][0]
            self.assertEqual(exactly(least_good(plane)), exactly(wanted))
        self.assertEqual([least_good(plane=plane) for plane in (LATE, LINE, TWO)], [11, 2, 3])
        # Each of the primes ahead divides a guard.
        product = 1
        for prime in PRIMES:
            product *= prime if prime < 60 else 1
        self.assertEqual(least_good([[product], [1], [], [product]]), 61)

    def test_what_stays_modulo_a_good_prime(self):
        for plane, _ in SAMPLES[::15] + FEW + [(LATE, 1), (LINE, 1)]:
            first = least_good(plane)
            later = [prime for prime in PRIMES if prime > first and is_good(plane, prime)]
            for prime in [first] + later[:2] + later[-1:]:
                self.assertEqual(degrees(plane_modulo(plane, prime)), degrees(plane))
                self.assertIs(is_clean_modulo(plane, prime), True)
                self.assertEqual(count_modulo(plane, prime), piece_count(plane))

    def test_sharp(self):
        self.assertEqual([is_good(LATE, prime) for prime in (2, 3, 5, 7, 11, 13)],
                         [False, False, False, False, True, True])
        self.assertEqual([count_modulo(LATE, 7), piece_count(LATE)], [2, 1])
        for prime in [prime for prime in PRIMES if prime > 7]:
            self.assertEqual(count_modulo(LATE, prime), 1)
        self.assertIs(is_good(LINE, 11), False)
        self.assertIs(is_clean_modulo(LINE, 11), False)

    def test_it_returns_a_bool(self):
        for prime in PRIMES:
            check_judge(self, lambda value: is_good(LATE, value), [prime])


class ConventionsTest(unittest.TestCase):

    def test_parameters(self):
        plane = ("plane", LATE, NOT_PLANES, InvalidPlane)
        for function in ONE_PLANE:
            check_parameters(self, function, [plane])
        check_parameters(self, is_good, [plane, ("prime", 7, NOT_PRIMES, InvalidPrime)])

    def test_errors_of_state(self):
        for function in ONE_PLANE:
            for plane in NOT_CLEAN:
                refused(self, NotClean, function, plane)
            for _, plane in NOT_TABLED:
                refused_limit(self, "degree", 4, function, as_tuples(plane))
        for plane in NOT_CLEAN:
            refused(self, NotClean, is_good, plane, 7)
        for _, plane in NOT_TABLED:
            refused_limit(self, "degree", 4, is_good, prime=9973, plane=plane)

    def test_a_wrong_prime_comes_ahead_of_the_errors_of_state(self):
        for plane in NOT_CLEAN + [plane for _, plane in NOT_TABLED]:
            for wrong in (4, True, None, 10007, -7, "7"):
                refused_value(self, InvalidPrime, wrong, is_good, plane, wrong)

    def test_what_is_passed_stays_and_what_is_returned_is_new(self):
        for plane, _ in FEW:
            for function in ONE_PLANE:
                wanted = check_call(self, function, [plane])
                self.assertEqual(check_call(self, function, [as_tuples(plane)]), wanted)
            check_call(self, is_good, [plane, 31])


if __name__ == "__main__":
    unittest.main()
