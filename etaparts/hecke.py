"""Placed numbers of whole products, and the numbers to which a prime carries them."""

from etaparts.checks import check_digits, check_level, check_many, is_within
from etaparts.divisors import index_of, is_prime, symbol
from etaparts.ends import order_parts
from etaparts.errors import InvalidPrime, NotCarried, TooMany
from etaparts.fitting import check_fits, kind_told, lacking
from etaparts.levels import shift_sum
from etaparts.products import check_product
from etaparts.series import numbers_of


def placed_row(level, product, many):
    """The list of b(0), b(1), .., so many."""
    check_level(level)
    check_product(product)
    check_many(many, 3000)
    check_carried(level, product)
    row = placed_numbers(product, many)
    check_digits(row)
    return row


def check_carried(level, product):
    check_fits(product, level)
    if not is_carried(level, product):
        raise NotCarried()


def is_carried(level, product):
    """Whether a product that fits has a weight from 1 to 24 and no order below 0."""
    return 1 <= kind_told(product)[0] <= 24 and all([part >= 0 for part in order_parts(product, level)])


def has_placed(level, product):
    """Whether the product fits the level, and has placed numbers."""
    return lacking(product, level) == [] and is_carried(level, product)


def first_placed(product):
    """The shift, from which on the placed numbers are the product's."""
    return shift_sum(product) // 24


def placed_numbers(product, many):
    """What placed_row tells, however many digits the numbers have."""
    ahead = min(first_placed(product), many)
    return [0] * ahead + numbers_of(product, many - ahead)


def is_serving_prime(level, prime):
    return is_within(prime, 3, 97) and is_prime(prime) and level % prime != 0


def check_prime(level, prime):
    if not is_serving_prime(level, prime):
        raise InvalidPrime(prime)


def carried_row(level, product, prime, many):
    """The list of c(0), c(1), .., so many."""
    check_level(level)
    check_product(product)
    check_prime(level, prime)
    check_many(many, 3000)
    check_carried(level, product)
    if prime * (many - 1) > 3000:
        raise TooMany("places", 3000)
    row = carried_numbers(product, placed_numbers(product, prime * many), prime, many)
    check_digits(row)
    return row


def carried_numbers(product, placed, prime, many):
    """So many numbers to which the prime carries the placed ones, which go far enough."""
    row = placed[:prime * many:prime]
    factor = carried_by(product, prime)
    for place in range(0, many, prime):
        row[place] += factor * placed[place // prime]
    return row


def carried_by(product, prime):
    """How often b(n / p) is taken: e p^(weight - 1)."""
    weight, sign = kind_told(product)
    factor = symbol(sign, prime)
    for _ in range(weight - 1):
        factor *= prime
    return factor


def symbol_at(level, product, prime):
    """The symbol of the kind's sign by the prime, 1 or -1."""
    check_level(level)
    check_product(product)
    check_prime(level, prime)
    check_carried(level, product)
    return symbol(kind_told(product)[1], prime)


def places_asked(level, product):
    """The greatest place at which carried numbers have to be a multiple of the placed ones, to be it for every n."""
    check_level(level)
    check_product(product)
    check_carried(level, product)
    return last_asked(level, product)


def last_asked(level, product):
    return kind_told(product)[0] * index_of(level) // 12
