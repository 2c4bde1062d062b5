"""Divisors, primes, the index of a level, and what squares leave by a prime."""

from math import gcd, isqrt

from etaparts.checks import check_integer, check_level, check_number, is_within
from etaparts.errors import InvalidPrime


def divisors_of(number):
    """The rising list of the divisors."""
    check_number(number, 1, 1000000)
    low = [divisor for divisor in range(1, isqrt(number) + 1) if number % divisor == 0]
    high = [number // divisor for divisor in low[::-1] if divisor * divisor != number]
    return low + high


def primes_of(number):
    """The list of the tuples (prime, how often) of which it is the product, primes rising."""
    check_number(number, 1, 1000000)
    return factored(number)


def factored(number):
    """What primes_of tells, of any count above 0."""
    found = []
    prime = 2
    while prime * prime <= number:
        often = 0
        while number % prime == 0:
            number //= prime
            often += 1
        if often > 0:
            found.append((prime, often))
        prime += 1
    if number > 1:
        found.append((number, 1))
    return found


def coprime_count(number):
    """How many counts below it have no common divisor above 1 with it; of 1 it is 1."""
    check_number(number, 1, 1000000)
    count = number
    for prime, _ in factored(number):
        count = count // prime * (prime - 1)
    return count


def is_prime(value):
    """Whether any value is a prime at most 3,000."""
    return is_within(value, 2, 3000) and factored(value) == [(value, 1)]


def common_divisor(first, second):
    """The greatest common divisor; of 0 and 0 it is 0."""
    check_integer(first)
    check_integer(second)
    return gcd(first, second)


def index_of(level):
    """The level times, for each of its primes p, 1 + 1 / p."""
    check_level(level)
    index = level
    for prime, _ in factored(level):
        index = index // prime * (prime + 1)
    return index


def symbol(first, prime):
    """0 if the prime divides it, 1 if it leaves what some square leaves, else -1."""
    check_integer(first)
    if not is_prime(prime) or prime == 2:
        raise InvalidPrime(prime)
    rest = first % prime
    if rest == 0:
        return 0
    # A number and its negative have one square, so half of the rests are enough.
    if any([root * root % prime == rest for root in range(1, prime // 2 + 1)]):
        return 1
    return -1
