"""Ratios: exact fractions in least terms, as tuples (number, under)."""

from math import gcd

from etaparts.checks import check_digits, check_integer, is_integer, is_pair
from etaparts.divisors import factored
from etaparts.errors import DividedByNought, InvalidRatio


def is_ratio(value):
    """Whether any value is a ratio."""
    if not is_pair(value) or not is_integer(value[0]) or not is_integer(value[1]):
        return False
    return value[1] >= 1 and gcd(value[0], value[1]) == 1


def check_ratio(ratio):
    if not is_ratio(ratio):
        raise InvalidRatio(ratio)


def reduced(number, under):
    """The ratio of two integers, the second not 0."""
    shared = gcd(number, under)
    if under < 0:
        shared = -shared
    ratio = (number // shared, under // shared)
    check_digits(ratio)
    return ratio


def ratio_of(first, second):
    """The ratio of the first by the second."""
    check_integer(first)
    check_integer(second)
    if second == 0:
        raise DividedByNought()
    return reduced(first, second)


def added(one, other):
    """The sum of both."""
    check_ratio(one)
    check_ratio(other)
    return reduced(one[0] * other[1] + other[0] * one[1], one[1] * other[1])


def less(one, other):
    """The one, the other one taken off."""
    check_ratio(one)
    check_ratio(other)
    return reduced(one[0] * other[1] - other[0] * one[1], one[1] * other[1])


def times(one, other):
    """The product of both."""
    check_ratio(one)
    check_ratio(other)
    return reduced(one[0] * other[0], one[1] * other[1])


def divided(one, other):
    """The one by the other."""
    check_ratio(one)
    check_ratio(other)
    if other[0] == 0:
        raise DividedByNought()
    return reduced(one[0] * other[1], one[1] * other[0])


def compared(one, other):
    """1 if the one is greater, -1 if the other one is, 0 of equal ones."""
    check_ratio(one)
    check_ratio(other)
    left = one[0] * other[1]
    right = other[0] * one[1]
    if left == right:
        return 0
    return 1 if left > right else -1


def square_free(ratio):
    """The integer without a square divisor above 1 of which the ratio is the multiple by a square."""
    check_ratio(ratio)
    number, under = ratio
    if number == 0 or abs(number) > 1000000 or under > 1000000:
        raise InvalidRatio(ratio)
    # Both have no common divisor, so neither have their square-free parts, and under counts as a factor.
    part = odd_primes(abs(number)) * odd_primes(under)
    return part if number > 0 else -part


def odd_primes(number):
    """The product of the primes that stand in it an odd number of times."""
    part = 1
    for prime, often in factored(number):
        if often % 2 == 1:
            part *= prime
    return part
