"""Products: tuples ("product", powers), put together by their steps' powers."""

from etaparts.checks import is_pair, is_rising, is_tagged, is_within
from etaparts.errors import InvalidExponent, InvalidProduct, InvalidStep, TooMany


def is_product(value):
    """Whether any value is a product."""
    if not is_tagged(value, "product", 2):
        return False
    powers = value[1]
    if not isinstance(powers, tuple) or len(powers) > 12:
        return False
    return all([is_step_power(pair) for pair in powers]) and is_rising([pair[0] for pair in powers])


def is_step_power(value):
    if not is_pair(value) or not is_within(value[0], 1, 60):
        return False
    return is_within(value[1], -60, 60) and value[1] != 0


def check_product(product):
    if not is_product(product):
        raise InvalidProduct(product)


def product_of(powers):
    """The product of a dict that tells the steps' powers: those that are 0 are left out."""
    kept = [(step, powers[step]) for step in sorted(powers) if powers[step] != 0]
    if len(kept) > 12:
        raise TooMany("steps", 12)
    if any([step > 60 for step, _ in kept]):
        raise TooMany("step", 60)
    if any([abs(power) > 60 for _, power in kept]):
        raise TooMany("powers", 60)
    return ("product", tuple(kept))


def product_times(product, other):
    """At each step the sum of both powers."""
    check_product(product)
    check_product(other)
    powers = dict(product[1])
    for step, power in other[1]:
        powers[step] = powers.get(step, 0) + power
    return product_of(powers)


def product_power(product, exponent):
    """Each power so many times."""
    check_product(product)
    if not is_within(exponent, -60, 60):
        raise InvalidExponent(exponent)
    return product_of({step: power * exponent for step, power in product[1]})


def product_at(product, d):
    """Each step d times as great."""
    check_product(product)
    if not is_within(d, 1, 60):
        raise InvalidStep(d)
    return product_of({step * d: power for step, power in product[1]})


def parting_place(product, other):
    """The first place at which their numbers are unlike, None if they are the same for every n."""
    check_product(product)
    check_product(other)
    powers = dict(product[1])
    others = dict(other[1])
    for step in sorted(list(powers) + list(others)):
        if powers.get(step, 0) != others.get(step, 0):
            return step
    return None
