"""Which products fit which levels, and their kinds there."""

from math import gcd, lcm

from etaparts.checks import check_level, is_within
from etaparts.divisors import divisors_of
from etaparts.errors import InvalidMany, InvalidWeight, NotFitting, TooMany
from etaparts.levels import has_steps_of, power_sum, shift_sum, turned_sum
from etaparts.products import check_product
from etaparts.ratios import odd_primes


def lacks(product, level):
    """The list of the words of what lacks the product to fit the level."""
    check_product(product)
    check_level(level)
    return lacking(product, level)


def lacking(product, level):
    words = []
    dividing = has_steps_of(product, level)
    if not dividing:
        words.append("steps")
    if power_sum(product) % 2 != 0:
        words.append("weight")
    if shift_sum(product) % 24 != 0:
        words.append("shift")
    if dividing and turned_sum(product, level) % 24 != 0:
        words.append("turned")
    return words


def fits(product, level):
    """Whether the product fits the level."""
    return lacks(product, level) == []


def check_fits(product, level):
    if lacking(product, level):
        raise NotFitting()


def kind_of(product, level):
    """The tuple (weight, sign) of a product that fits the level."""
    check_product(product)
    check_level(level)
    check_fits(product, level)
    return kind_told(product)


def kind_told(product):
    """What kind_of tells of a product that fits some level; it does not hang on the level."""
    weight = power_sum(product) // 2
    # Even powers of a step are squares.
    steps = 1
    for step, power in product[1]:
        if power % 2 != 0:
            steps *= step
    sign = odd_primes(steps)
    return (weight, sign if weight % 2 == 0 else -sign)


def least_level(product):
    """The least level that the product fits, None if there is none."""
    check_product(product)
    if power_sum(product) % 2 != 0 or shift_sum(product) % 24 != 0:
        return None
    steps = 1
    for step, _ in product[1]:
        steps = lcm(steps, step)
    level = steps * (24 // gcd(24, turned_sum(product, steps)))
    return level if level <= 120 else None


def fitting_power(product, level):
    """The least power of the product that fits the level, None if a step lacks."""
    check_product(product)
    check_level(level)
    if not has_steps_of(product, level):
        return None
    by_weight = 2 // gcd(2, power_sum(product))
    return lcm(by_weight, 24 // gcd(24, shift_sum(product)), 24 // gcd(24, turned_sum(product, level)))


def same_kind(level, product, other):
    """Whether both, which fit the level, have one kind."""
    check_level(level)
    check_product(product)
    check_product(other)
    check_fits(product, level)
    check_fits(other, level)
    return kind_told(product) == kind_told(other)


def fitting_products(level, weight, many):
    """The rising list of the products that fit, with this weight, their powers at most many in size."""
    check_level(level)
    if not is_within(weight, -30, 30):
        raise InvalidWeight(weight)
    if not is_within(many, 1, 24):
        raise InvalidMany(many)
    steps = [divisor for divisor in divisors_of(level) if divisor <= 60]
    check_choices(steps, many)
    found = [product for product in products_of_sum(steps, many, 2 * weight) if lacking(product, level) == []]
    if len(found) > 2000:
        raise TooMany("products", 2000)
    return sorted(found)


def check_choices(steps, many):
    choices = 1
    for _ in steps:
        choices *= 2 * many + 1
    if choices > 200000:
        raise TooMany("choices", 200000)


def products_of_sum(steps, many, total):
    """The list of all products of these rising steps whose powers, at most many in size, have this total."""
    rows = [()]
    for _ in steps[:-1]:
        rows = [row + (power,) for row in rows for power in range(-many, many + 1)]
    found = []
    for row in rows:
        last = total - sum(row)
        if abs(last) <= many:
            powers = [(step, power) for step, power in zip(steps, row + (last,)) if power != 0]
            found.append(("product", tuple(powers)))
    return found
