"""Clearings: what takes away all poles of an orbit's sections, and the places that then tell of all."""

from math import gcd

from etaparts.checks import check_level, check_section, check_step, is_integer, is_pair, is_within
from etaparts.divisors import divisors_of, index_of
from etaparts.errors import InvalidClearing, InvalidStep, NotFitting, TooMany
from etaparts.levels import power_sum, shift_sum
from etaparts.lows import low_part, shared_steps
from etaparts.orbits import orbit_of
from etaparts.products import check_product
from etaparts.ratios import reduced
from etaparts.serving import least_serving, row_broken


def is_clearing(product, m, level, value):
    """Whether any value is a clearing of the product and m at the level."""
    check_product(product)
    check_step(m)
    check_level(level)
    return clears(product, m, level, value)


def clears(product, m, level, value):
    if not is_pair(value) or not is_divisor(level, value[0]) or not is_integer(value[1]):
        return False
    return value[1] >= power_needed(product, m, level, value[0])


def is_divisor(level, value):
    return is_within(value, 1, level) and level % value == 0


def power_needed(product, m, level, step):
    """The least power that clears with the step: greater ones clear, too."""
    shared = shared_steps(product)
    power = 0
    for end in divisors_of(level):
        # The low, and power gcd(step, end)^2 / (24 step), are together at least 0.
        under = m * shared * gcd(step, end) ** 2
        power = max(power, -(low_part(product, m, end, shared) * step // under))
    return power


def least_power(product, m, level, step):
    """The least power that clears with this divisor of the level."""
    check_product(product)
    check_step(m)
    check_level(level)
    if not is_divisor(level, step):
        raise InvalidStep(step)
    return power_needed(product, m, level, step)


def bound(product, m, t, level, clearing):
    """The bound of the clearing for t, at a level that serves."""
    check_product(product)
    check_section(m, t)
    check_level(level)
    if not clears(product, m, level, clearing):
        raise InvalidClearing(clearing)
    if row_broken(product, m, t, level) is not None:
        raise NotFitting()
    return bound_told(product, m, orbit_of(product, m, t), level, clearing)


def bound_told(product, m, rests, level, clearing):
    """The bound for an orbit, told by its rests."""
    step, power = clearing
    index = index_of(level)
    whole = (power + power_sum(product)) * index - step * power
    return reduced(m * whole - shift_sum(product) - 24 * rests[0], 24 * m)


def told_clearing(product, m, t):
    """The tuple (level, step, power, bound) of the told clearing."""
    level = least_serving(product, m, t)
    if level is None:
        raise TooMany("level", 120)
    index = index_of(level)
    choices = [(step, power_needed(product, m, level, step)) for step in divisors_of(level)]
    # What the bounds of two clearings have unlike; of equal ones the first divisor is kept, which is the least.
    step, power = min(choices, key=lambda choice: choice[1] * (index - choice[0]))
    return (level, step, power, bound_told(product, m, orbit_of(product, m, t), level, (step, power)))
