"""Plain reckoning of sections, lows and clearings by the words that tell them, with fractions."""

from fractions import Fraction
from math import gcd

from asking import PARTS, TWELVE_STEPS, product

PAIRS = product((1, -2))
THREES = product((1, -3))
TAU = product((1, 24))
SQUARES = product((1, -2), (2, 5), (4, -2))
MANY = [product(), PARTS, PAIRS, THREES, TAU, SQUARES, product((2, -1)), product((1, -1), (2, 1)), product((7, -1)),
        product((1, -24)), product((1, 5), (7, -3)), product((2, 1), (3, -1)), product((4, -5), (12, -3)), TWELVE_STEPS]


def sums_of(one):
    """The sum of the powers, and of step times power."""
    return sum(power for _, power in one[1]), sum(step * power for step, power in one[1])


def divisors(number):
    return [d for d in range(1, number + 1) if number % d == 0]


def plain_low(one, m, c):
    """All a beside c, and all l, one by one."""
    k = 24 if m == 1 else gcd(m * m - 1, 24)
    values = []
    for a in range(1, m * c + 1):
        if gcd(a, c) == 1:
            for l in range(m):
                values.append(sum(Fraction(power * gcd(step * (a + k * l * c), m * c) ** 2, 24 * step * m)
                                  for step, power in one[1]))
    return min(values)


def plain_index(level):
    index = Fraction(level)
    for p in range(2, level + 1):
        if level % p == 0 and all(p % d for d in range(2, p)):
            index *= 1 + Fraction(1, p)
    return int(index)


def clears_plainly(lows, step, power):
    return all(low + Fraction(power * gcd(step, c) ** 2, 24 * step) >= 0 for c, low in lows)


def plain_bound(one, m, rest, level, d, a):
    """The bound for an orbit whose least rest is told."""
    total, shifted = sums_of(one)
    return Fraction((a + total) * plain_index(level) - d * a, 24) - Fraction(shifted, 24 * m) - Fraction(rest, m)
