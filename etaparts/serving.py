"""Levels that serve a section: those at which finitely many of its numbers tell of all."""

from math import gcd

from etaparts.checks import check_level, check_section
from etaparts.divisors import factored
from etaparts.levels import has_steps_of, power_sum, shift_sum, turned_sum
from etaparts.products import check_product


def serves(product, m, t, level):
    """Whether the level serves."""
    return why_not(product, m, t, level) is None


def why_not(product, m, t, level):
    """The number of the first row that isn't so, 1 to 6, None if the level serves."""
    check_product(product)
    check_section(m, t)
    check_level(level)
    return row_broken(product, m, t, level)


def least_serving(product, m, t):
    """The least level that serves, None if there is none."""
    check_product(product)
    check_section(m, t)
    for level in range(1, 121):
        if row_broken(product, m, t, level) is None:
            return level
    return None


def row_broken(product, m, t, level):
    k = gcd(m * m - 1, 24)
    if any([level % prime != 0 for prime, _ in factored(m)]):
        return 1
    if not has_steps_of(product, m * level):
        return 2
    if k * level * turned_sum(product, m * level) % 24 != 0:
        return 3
    if k * level * power_sum(product) % 8 != 0:
        return 4
    if level % (24 * m // gcd(k * (24 * t + shift_sum(product)), 24 * m)) != 0:
        return 5
    if m % 2 == 0 and not is_even_right(product, k, level):
        return 6
    return None


def is_even_right(product, k, level):
    """What is asked of an even m: by the twos, and by what the odd rest leaves by 8, in the product of all steps."""
    twos = 0
    odd = 1
    for step, power in product[1]:
        for _ in range(abs(power)):
            left = step
            while left % 2 == 0:
                left //= 2
                twos += 1
            odd = odd * left % 8
    if k * level % 4 == 0 and twos * level % 8 == 0:
        return True
    return twos % 2 == 0 and level * (1 - odd) % 8 == 0
