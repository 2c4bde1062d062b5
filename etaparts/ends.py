"""The ends of a level, the orders of products there, and products that are told by their orders."""

from math import gcd, lcm

from etaparts.checks import check_level, is_listed, is_within
from etaparts.divisors import coprime_count, divisors_of, factored
from etaparts.errors import InvalidEnd, InvalidOrders
from etaparts.fitting import check_fits, lacking
from etaparts.products import check_product, is_product
from etaparts.ratios import is_ratio, reduced


def ends(level):
    """The rising list of the tuples (end, how often, width)."""
    check_level(level)
    return ends_of(level)


def ends_of(level):
    return [(end, coprime_count(gcd(end, level // end)), width_at(level, end)) for end in divisors_of(level)]


def width_at(level, end):
    return level // (end * gcd(end, level // end))


def check_end(level, end):
    if not is_within(end, 1, level) or level % end != 0:
        raise InvalidEnd(end)


def order_at(product, level, end):
    """The order of the product at the end."""
    check_product(product)
    check_level(level)
    check_end(level, end)
    check_fits(product, level)
    return reduced(order_part(product, level, end), 24 * level)


def order_part(product, level, end):
    """The order at the end, counted in parts of which 24 times the level make 1: so it is an integer."""
    total = sum([gcd(end, step) ** 2 * (level // step) * power for step, power in product[1]])
    return width_at(level, end) * total


def order_parts(product, level):
    """The orders at all ends, each in parts of which 24 times the level make 1."""
    return [order_part(product, level, end) for end in divisors_of(level)]


def orders(product, level):
    """The list of the orders, by the ends' sequence."""
    check_product(product)
    check_level(level)
    check_fits(product, level)
    return [reduced(part, 24 * level) for part in order_parts(product, level)]


def is_whole(product, level):
    """Whether no order is below 0."""
    check_product(product)
    check_level(level)
    check_fits(product, level)
    return all([part >= 0 for part in order_parts(product, level)])


def is_falling(product, level):
    """Whether all orders are above 0."""
    check_product(product)
    check_level(level)
    check_fits(product, level)
    return all([part > 0 for part in order_parts(product, level)])


def product_with(level, orders):
    """The product that fits the level and has these orders, None if there is none."""
    check_level(level)
    many = len(divisors_of(level))
    if not is_listed(orders, many, many) or not all([is_ratio(order) for order in orders]):
        raise InvalidOrders(orders)
    powers, under = powers_by_orders(level, orders)
    if any([power % under != 0 for _, power in powers]):
        return None
    product = ("product", tuple([(step, power // under) for step, power in powers if power != 0]))
    return product if is_product(product) and lacking(product, level) == [] else None


def powers_by_orders(level, orders):
    """The tuples (divisor, power) that lead to the orders, the powers as integers, and what is under all of them."""
    divided = [(number, under * width_at(level, end)) for end, (number, under) in zip(divisors_of(level), orders)]
    shared = 1
    for _, under in divided:
        shared = lcm(shared, under)
    values = {}
    for end, (number, under) in zip(divisors_of(level), divided):
        values[end] = 24 * number * (shared // under)
    for prime, often in factored(level):
        values = turned_back(values, prime, often)
        shared *= factor_of(prime, often)
    return [(step, values[step]) for step in sorted(values)], shared


def factor_of(prime, often):
    """What turned_back puts on all values, so that they stay integers."""
    factor = prime * prime - 1
    for _ in range(often - 1):
        factor *= prime * prime
    return factor


def turned_back(values, prime, often):
    """The table of one prime turned back, for values by divisors.

    Along one prime the value at its i-th power is the sum over j of p^(2 min(i, j) - j) x(j). With s(i) the sum of
    p^-j x(j) over j from i on, the value at 0 is s(0), each other one less the one ahead p^(2 i - 2) (p^2 - 1) s(i).
    """
    factor = factor_of(prime, often)
    found = {}
    for end in values:
        if end % prime != 0:
            line = [end]
            for _ in range(often):
                line.append(line[-1] * prime)
            sums = [values[end] * factor]
            for ahead, behind in zip(line, line[1:]):
                # s(i) times the factor: p^2 as often as i is below how often the prime stands.
                lift = line[-1] // behind
                sums.append((values[behind] - values[ahead]) * lift * lift)
            for step, this, following in zip(line, sums, sums[1:] + [0]):
                found[step] = step // end * (this - following)
    return found
