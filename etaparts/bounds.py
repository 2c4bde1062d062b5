"""Sums and least orders at the ends, and how many places are enough for products of one kind."""

from etaparts.checks import check_level, is_listed
from etaparts.divisors import index_of
from etaparts.ends import ends_of, order_parts
from etaparts.errors import InvalidProducts, UnlikeKinds
from etaparts.fitting import check_fits, kind_told
from etaparts.products import check_product, is_product
from etaparts.ratios import reduced


def sum_of_orders(product, level):
    """The sum of all orders, each as often as its end stands."""
    check_product(product)
    check_level(level)
    check_fits(product, level)
    return reduced(sum_by_ends(level, order_parts(product, level)), 24 * level)


def sum_by_ends(level, parts):
    """The sum of what is told of the ends, each as often as its end stands."""
    return sum([often * part for (_, often, _), part in zip(ends_of(level), parts)])


def least_orders(level, products):
    """The list of the least orders, by the ends' sequence."""
    check_products(level, products)
    return [reduced(part, 24 * level) for part in least_parts([order_parts(product, level) for product in products])]


def check_products(level, products):
    check_level(level)
    if not is_listed(products, 1, 8) or not all([is_product(product) for product in products]):
        raise InvalidProducts(products)
    for product in products:
        check_fits(product, level)
    if any([kind_told(product) != kind_told(products[0]) for product in products]):
        raise UnlikeKinds()


def least_parts(rows):
    """The least of each end, of rows that have something for each."""
    return [min(parts) for parts in zip(*rows)]


def bound_of(level, products):
    """The bound of products of one kind."""
    check_products(level, products)
    weight, _ = kind_told(products[0])
    return bound_by(level, weight, [order_parts(product, level) for product in products])


def bound_by(level, weight, rows):
    """The bound of this weight, by rows of orders in parts of which 24 times the level make 1."""
    least = least_parts(rows)
    # The level itself is its last end.
    taken = sum_by_ends(level, least[:-1] + [0])
    return reduced(weight * index_of(level) * 2 * level - taken, 24 * level)
