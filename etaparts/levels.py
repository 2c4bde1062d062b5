"""Levels, and what products have by their sums: weight, shift, and the product turned at a level."""

from etaparts.checks import check_level, is_within
from etaparts.errors import NotFitting, TooMany
from etaparts.products import check_product
from etaparts.ratios import reduced


def is_level(value):
    """Whether any value is a level."""
    return is_within(value, 1, 120)


def weight_of(product):
    """The weight, a ratio."""
    check_product(product)
    return reduced(power_sum(product), 2)


def shift_of(product):
    """The shift, a ratio."""
    check_product(product)
    return reduced(shift_sum(product), 24)


def power_sum(product):
    """The sum of the powers: twice the weight."""
    return sum([power for _, power in product[1]])


def shift_sum(product):
    """The sum of step times power: 24 times the shift."""
    return sum([step * power for step, power in product[1]])


def turned_sum(product, level):
    """The sum of level / step times power, where all steps divide the level."""
    return sum([level // step * power for step, power in product[1]])


def has_steps_of(product, level):
    """Whether all steps divide the level."""
    return all([level % step == 0 for step, _ in product[1]])


def turned(product, level):
    """The product with level / step in the place of each step."""
    check_product(product)
    check_level(level)
    if not has_steps_of(product, level):
        raise NotFitting()
    # The steps are turned over, so what was rising falls.
    powers = tuple([(level // step, power) for step, power in product[1][::-1]])
    if any([step > 60 for step, _ in powers]):
        raise TooMany("step", 60)
    return ("product", powers)
