"""Lows: below what order no section of an orbit falls at the ends of a level that serves."""

from math import gcd, lcm

from etaparts.checks import check_level, check_step, is_within
from etaparts.divisors import divisors_of
from etaparts.errors import InvalidEnd
from etaparts.products import check_product
from etaparts.ratios import reduced


def low(product, m, end):
    """The low of the product and m at the end."""
    check_product(product)
    check_step(m)
    if not is_within(end, 1, 120):
        raise InvalidEnd(end)
    return low_at(product, m, end)


def lows(product, m, level):
    """The list of the tuples (end, low), for all ends of the level, rising."""
    check_product(product)
    check_step(m)
    check_level(level)
    return [(end, low_at(product, m, end)) for end in divisors_of(level)]


def low_at(product, m, end):
    shared = shared_steps(product)
    return reduced(low_part(product, m, end, shared), 24 * m * shared)


def shared_steps(product):
    """The least common multiple of the steps."""
    shared = 1
    for step, _ in product[1]:
        shared = lcm(shared, step)
    return shared


def low_part(product, m, end, shared):
    """The low in parts of which 24 m shared make 1, shared being a common multiple of the steps.

    The number x = a + k l end runs through all rests by m end beside the end, and gcd(step x, m end) hangs only on
    gcd(x, m end). The values of this are the divisors of m beside the end, each being such an x itself.
    """
    factors = [factor for factor in divisors_of(m) if gcd(factor, end) == 1]
    return min([part_by(product, m * end, factor, shared) for factor in factors])


def part_by(product, number, factor, shared):
    return sum([power * gcd(step * factor, number) ** 2 * (shared // step) for step, power in product[1]])
