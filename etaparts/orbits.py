"""Orbits: the rests whose sections stand and fall together."""

from math import gcd

from etaparts.checks import check_section, check_step
from etaparts.levels import shift_sum
from etaparts.products import check_product


def squares_of(m):
    """The sorted list of the rests by 24 m of the squares beside it."""
    check_step(m)
    return squares_by(24 * m)


def squares_by(number):
    return sorted({x * x % number for x in range(number) if gcd(x, number) == 1})


def orbit(product, m, t):
    """The orbit of t by m."""
    check_product(product)
    check_section(m, t)
    return orbit_of(product, m, t)


def orbit_of(product, m, t):
    total = shift_sum(product)
    # Each such square leaves 1 by 24.
    return sorted({(t * square + total * ((square - 1) // 24)) % m for square in squares_by(24 * m)})


def orbits(product, m):
    """The sorted list of all orbits of rests by m."""
    check_product(product)
    check_step(m)
    found = []
    for t in range(m):
        # A rest in an earlier orbit has just this one.
        if not any([t in rests for rests in found]):
            found.append(orbit_of(product, m, t))
    return found
