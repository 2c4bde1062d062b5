"""Equations that are found: coefficients read off, and products looked for."""

from etaparts.checks import check_digits, check_level, check_section, is_listed, is_within
from etaparts.divisors import divisors_of
from etaparts.equations import are_right_products, both_rows, check_places, goes_with, last_place, least_level_for
from etaparts.equations import place_in, row_behind
from etaparts.errors import InvalidMany, InvalidProducts, NotFitting
from etaparts.fitting import check_choices, products_of_sum
from etaparts.levels import power_sum
from etaparts.products import check_product, is_product
from etaparts.series import numbers_of


def found_terms(product, m, t, products):
    """The terms with these products whose equation holds for every n, None if there are none."""
    check_product(product)
    check_section(m, t)
    if not is_listed(products, 1, 6) or not all([is_product(factor) for factor in products]):
        raise InvalidProducts(products)
    if not are_right_products(product, m, t, products):
        raise InvalidProducts(products)
    return terms_of(product, m, t, list(products))


def terms_of(product, m, t, products):
    level = least_level_for(product, m, t, products)
    if level is None:
        raise NotFitting()
    # Terms that fall out leave the others to begin later, so the last place is looked at, too.
    last = max(last_place(product, m, t, products, level), place_in(product, m, t, products[-1]))
    check_places(m, t, last)
    terms = read_off(product, m, t, products)
    left, right = both_rows(product, m, t, terms, last)
    if left != right or terms == ():
        return None
    check_digits([coefficient for coefficient, _ in terms])
    return terms


def read_off(product, m, t, products):
    """The terms that fit at the products' places, those with the coefficient 0 left out."""
    last = place_in(product, m, t, products[-1])
    left = numbers_of(product, m * last + t + 1)[t::m]
    terms = []
    for factor in products:
        place = place_in(product, m, t, factor)
        coefficient = left[place]
        if coefficient != 0:
            terms.append((coefficient, factor))
            row = row_behind(factor, place, last)
            left = [number - coefficient * more for number, more in zip(left, row)]
    return tuple(terms)


def candidates(product, m, t, level, many):
    """The list of the tuples (place, product) of the chosen ones."""
    check_product(product)
    check_section(m, t)
    check_level(level)
    if not is_within(many, 1, 24):
        raise InvalidMany(many)
    steps = [divisor for divisor in divisors_of(level) if divisor <= 60]
    check_choices(steps, many)
    choices = products_of_sum(steps, many, power_sum(product))
    placed = [(place_in(product, m, t, factor), factor) for factor in choices]
    return chosen(sorted([choice for choice in placed if choice[0] is not None]), level)


def chosen(placed, level):
    """The first one, and for each greater place the least one that goes with it, at most six."""
    found = placed[:1]
    for place, factor in placed[1:]:
        if len(found) < 6 and place > found[-1][0] and goes_with(factor, found[0][1], level):
            found.append((place, factor))
    return found


def looked(product, m, t, level, many):
    """What found_terms tells of the chosen products, None if there are none."""
    products = [factor for _, factor in candidates(product, m, t, level, many)]
    return terms_of(product, m, t, products) if products else None
