"""Common divisors and primes."""

from math import gcd

from curvepieces.errors import InvalidPrime
from curvepieces.kinds import check_number, is_integer

PRIMES_END = 10000


def greatest(number, other):
    """The greatest common divisor of two INTEGERS, a COUNT; 0 of 0 and 0."""
    check_number(number)
    check_number(other)
    return gcd(number, other)


def is_prime(value):
    """Whether any value is a prime INTEGER below 10,000."""
    if not is_integer(value) or value < 2 or value >= PRIMES_END:
        return False
    part = 2
    while part * part <= value:
        if value % part == 0:
            return False
        part += 1
    return True


def check_prime(prime):
    """InvalidPrime unless a prime below 10,000."""
    if not is_prime(prime):
        raise InvalidPrime(prime)
