"""Equations: sections that are for ever a sum of products, each from its place on."""

from etaparts.checks import check_digits, check_level, check_number, check_section, is_integer, is_pair, is_rising
from etaparts.checks import is_tagged, is_within
from etaparts.divisors import index_of
from etaparts.ends import ends_of
from etaparts.errors import InvalidTerms, NotFitting, TooMany
from etaparts.fitting import kind_told, lacking
from etaparts.levels import has_steps_of, power_sum, shift_sum
from etaparts.lows import low_part
from etaparts.products import check_product, is_product
from etaparts.ratios import reduced
from etaparts.series import numbers_of
from etaparts.serving import row_broken


def is_terms(product, m, t, value):
    """Whether any value is right terms for the section."""
    check_product(product)
    check_section(m, t)
    return are_right_terms(product, m, t, value)


def are_right_terms(product, m, t, value):
    if not isinstance(value, tuple) or not 1 <= len(value) <= 6 or not all([is_term(term) for term in value]):
        return False
    return are_right_products(product, m, t, products_in(value))


def is_term(value):
    return is_pair(value) and is_integer(value[0]) and value[0] != 0 and is_product(value[1])


def products_in(terms):
    return [factor for _, factor in terms]


def are_right_products(product, m, t, products):
    """Whether they would be right with coefficients 1."""
    if any([place_in(product, m, t, factor) is None for factor in products]):
        return False
    return is_rising([shift_sum(factor) for factor in products])


def place_in(product, m, t, factor):
    """The place of a term's product, None if it isn't right: by its weight, or with no count to 200 as its place."""
    if power_sum(factor) != power_sum(product):
        return None
    parts = m * shift_sum(factor) - shift_sum(product) - 24 * t
    return parts // (24 * m) if parts % (24 * m) == 0 and 0 <= parts <= 200 * 24 * m else None


def check_terms(product, m, t, terms):
    check_product(product)
    check_section(m, t)
    if not are_right_terms(product, m, t, terms):
        raise InvalidTerms(terms)


def serves_equation(product, m, t, terms, level):
    """Whether the level serves the equation."""
    check_terms(product, m, t, terms)
    check_level(level)
    return is_serving(product, m, t, products_in(terms), level)


def is_serving(product, m, t, products, level):
    if row_broken(product, m, t, level) is not None:
        return False
    if not all([has_steps_of(factor, level) for factor in products]):
        return False
    return all([goes_with(factor, products[0], level) for factor in products])


def goes_with(factor, first, level):
    """Whether the one, divided by the first one, fits the level with the kind (0, 1)."""
    powers = dict(factor[1])
    for step, power in first[1]:
        powers[step] = powers.get(step, 0) - power
    # This may be no product, by the size of its powers or by how many there are.
    quotient = ("product", tuple([(step, powers[step]) for step in sorted(powers) if powers[step] != 0]))
    return lacking(quotient, level) == [] and kind_told(quotient) == (0, 1)


def equation_bound(product, m, t, terms, level):
    """The bound of the equation at a level that serves it."""
    check_terms(product, m, t, terms)
    check_level(level)
    products = products_in(terms)
    if not is_serving(product, m, t, products, level):
        raise NotFitting()
    number, under = bound_parts(product, m, t, products, level)
    return reduced(number, under)


def bound_parts(product, m, t, products, level):
    """The bound as a number and what is under it, not in least terms."""
    taken = 0
    for end, often, width in ends_of(level)[:-1]:
        # All lows in parts of which 24 m^2 level make 1: all steps divide m times the level.
        parts = [m * low_part(factor, 1, end, m * level) for factor in products]
        taken += often * width * min(parts + [low_part(product, m, end, m * level)])
    first = place_in(product, m, t, products[0])
    whole = power_sum(product) * index_of(level) - (24 * t + shift_sum(product)) // m - 23 * first
    under = m * m * level
    return whole * under - taken, under


def sides(product, m, t, terms, n):
    """The tuple of both sides' numbers at n."""
    check_terms(product, m, t, terms)
    check_number(n, 0, 200)
    if m * n + t > 3000:
        raise TooMany("places", 3000)
    left, right = both_rows(product, m, t, terms, n)
    check_digits([left[n], right[n]])
    return (left[n], right[n])


def both_rows(product, m, t, terms, last):
    """The two sides' numbers from 0 to the last place."""
    left = numbers_of(product, m * last + t + 1)[t::m]
    right = [0] * (last + 1)
    for coefficient, factor in terms:
        for n, number in enumerate(row_behind(factor, place_in(product, m, t, factor), last)):
            right[n] += coefficient * number
    return left, right


def row_behind(factor, place, last):
    """The product's numbers from 0 to the last place, put behind its place."""
    ahead = min(place, last + 1)
    return [0] * ahead + numbers_of(factor, last + 1 - ahead)


def least_level_for(product, m, t, products):
    """The least level that serves the equation, whatever the coefficients are, None if there is none."""
    for level in range(1, 121):
        if is_serving(product, m, t, products, level):
            return level
    return None


def last_place(product, m, t, products, level):
    """The last place to which both sides have to be the same: the bound, or the first term's place."""
    number, under = bound_parts(product, m, t, products, level)
    return max(number // under, place_in(product, m, t, products[0]))


def check_places(m, t, last):
    if last > 200:
        raise TooMany("places", 200)
    if m * last + t > 3000:
        raise TooMany("places", 3000)


def decided_equation(product, m, t, terms):
    """The paper ("holds", level), or ("place", n, left, right) with the first place at which both sides are unlike."""
    check_terms(product, m, t, terms)
    products = products_in(terms)
    level = least_level_for(product, m, t, products)
    if level is None:
        raise NotFitting()
    last = last_place(product, m, t, products, level)
    check_places(m, t, last)
    left, right = both_rows(product, m, t, terms, last)
    for n in range(last + 1):
        if left[n] != right[n]:
            check_digits([left[n], right[n]])
            return ("place", n, left[n], right[n])
    return ("holds", level)


def is_equation_paper(product, m, t, terms, value):
    """Whether any value is a paper that is taken."""
    check_terms(product, m, t, terms)
    if is_tagged(value, "holds", 2):
        return is_within(value[1], 1, 120) and is_holding(product, m, t, terms, value[1])
    return is_tagged(value, "place", 4) and is_unlike_place(product, m, t, terms, value)


def is_holding(product, m, t, terms, level):
    products = products_in(terms)
    if not is_serving(product, m, t, products, level):
        return False
    last = last_place(product, m, t, products, level)
    if last > 200 or m * last + t > 3000:
        return False
    left, right = both_rows(product, m, t, terms, last)
    return left == right


def is_unlike_place(product, m, t, terms, paper):
    """Whether the two sides' numbers at the place are what the paper tells, and unlike."""
    n, one, another = paper[1:]
    if not is_within(n, 0, 200) or not is_integer(one) or not is_integer(another) or one == another:
        return False
    if m * n + t > 3000:
        return False
    left, right = both_rows(product, m, t, terms, n)
    return left[n] == one and right[n] == another
