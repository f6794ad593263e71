"""Common divisors and primes."""

import unittest

from curvepieces.errors import InvalidNumber
from curvepieces.numbers import greatest, is_prime
from tests.support import NOT_INTEGERS, Dice, check_call, check_judge, check_parameters


class GreatestTest(unittest.TestCase):

    def test_by_trying_all_divisors(self):
        for number in range(-30, 31):
            for other in range(-30, 31):
                both = [k for k in range(1, 31) if number % k == 0 and other % k == 0]
                wanted = max(both) if number or other else 0
                self.assertEqual(greatest(number, other), wanted, (number, other))

    def test_great_numbers(self):
        self.assertEqual(greatest(6 * 10 ** 29, -9 * 10 ** 28), 3 * 10 ** 28)
        self.assertEqual(greatest(0, -10 ** 29), 10 ** 29)
        self.assertEqual(greatest(2 ** 89 - 1, 2 ** 61 - 1), 1)

    def test_it_is_an_integer_by_names_too(self):
        self.assertIs(greatest(-1, 0).__class__, int)
        self.assertEqual(greatest(other=8, number=12), 4)
        check_call(self, greatest, [12, -18])

    def test_refused(self):
        check_parameters(self, greatest, [("number", 12, NOT_INTEGERS, InvalidNumber),
                                          ("other", -18, NOT_INTEGERS, InvalidNumber)])


class IsPrimeTest(unittest.TestCase):

    def test_all_to_the_bound_and_beyond(self):
        sieve = [True] * 10000
        sieve[0] = sieve[1] = False
        for part in range(2, 100):
            for multiple in range(part * part, 10000, part):
                sieve[multiple] = False
        for value in range(-50, 12000):
            self.assertIs(is_prime(value), 0 <= value < 10000 and sieve[value], value)

    def test_great_numbers(self):
        for value in (10007, 1000003, 2 ** 61 - 1, 10 ** 29 + 319, -7, -9973):
            self.assertIs(is_prime(value), False)

    def test_any_value(self):
        check_judge(self, is_prime, NOT_INTEGERS + [2, 4])
        for value in NOT_INTEGERS + [[2], (3,), "7", b"7", {2: 2}]:
            self.assertIs(is_prime(value), False, value)
        self.assertIs(is_prime(value=3), True)

    def test_a_call_repeated(self):
        dice = Dice(1)
        for _ in range(50):
            check_call(self, is_prime, [dice.roll(0, 11000)])


if __name__ == "__main__":
    unittest.main()
