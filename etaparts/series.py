"""Rows: the first numbers of products, and what is made of rows."""

from etaparts.checks import check_digits, check_many, check_row, check_section, is_within
from etaparts.endless import row_by_powers
from etaparts.errors import InvalidExponent, InvalidPlace, InvalidStep, TooMany
from etaparts.products import check_product


def product_row(product, many):
    """The product's first many numbers."""
    check_product(product)
    check_many(many, 3000)
    row = numbers_of(product, many)
    check_digits(row)
    return row


def numbers_of(product, many):
    """What product_row tells, however many digits the numbers have."""
    powers = [0] * many
    for step, power in product[1]:
        for place in range(step, many, step):
            powers[place] += power
    return row_by_powers(powers, many)


def plain_row(product, many):
    """What product_row tells, factor by factor."""
    check_product(product)
    check_many(many, 200)
    row = ([1] + [0] * many)[:many]
    for step, power in product[1]:
        for place in range(step, many, step):
            for _ in range(abs(power)):
                row = factor_put_on(row, place) if power > 0 else factor_taken_off(row, place)
    check_digits(row)
    return row


def factor_put_on(row, place):
    """The row times 1 - q^place."""
    return row[:place] + [number - before for number, before in zip(row[place:], row)]


def factor_taken_off(row, place):
    """The row whose product with 1 - q^place is the row."""
    left = list(row)
    for at in range(place, len(left)):
        left[at] += left[at - place]
    return left


def number_at(product, place):
    """The product's number at the place."""
    check_product(product)
    if not is_within(place, 0, 2999):
        raise InvalidPlace(place)
    number = numbers_of(product, place + 1)[place]
    check_digits([number])
    return number


def rows_added(row, other):
    """The sum, place by place, as far as both go."""
    check_row(row)
    check_row(other)
    total = [one + another for one, another in zip(row, other)]
    check_digits(total)
    return total


def rows_times(row, other):
    """The product of both rows, as far as both go."""
    check_row(row)
    check_row(other)
    found = []
    for place in range(min(len(row), len(other))):
        number = sum([one * another for one, another in zip(row, other[place::-1])])
        # Asked at once: the rows behind a number that is too long may take long.
        check_digits([number])
        found.append(number)
    return found


def row_power(row, exponent):
    """The product of so many like rows."""
    check_row(row)
    if not is_within(exponent, 0, 60):
        raise InvalidExponent(exponent)
    if exponent == 0:
        return ([1] + [0] * len(row))[:len(row)]
    ahead = noughts_ahead(row)
    places = len(row) - ahead * exponent
    if places <= 0:
        return [0] * len(row)
    return [0] * (ahead * exponent) + power_of_begun(row[ahead:], exponent, places)


def noughts_ahead(row):
    """How many numbers are 0 ahead of the first one that is not."""
    for place, number in enumerate(row):
        if number != 0:
            return place
    return len(row)


def power_of_begun(row, exponent, places):
    """So many places of the row to the exponent; its first number is not 0.

    By the derivative, place * first * b(place) is the sum over k from 1 to the place of
    (k (exponent + 1) - place) row(k) b(place - k): one pass instead of exponent - 1 products.
    """
    first = 1
    for _ in range(exponent):
        first *= row[0]
    check_digits([first])
    found = [first]
    for place in range(1, places):
        total = sum([(k * (exponent + 1) - place) * row[k] * found[place - k] for k in range(1, place + 1)])
        found.append(total // (place * row[0]))
        check_digits(found[-1:])
    return found


def row_at(row, d, many):
    """The first many numbers of the row at d: its numbers at 0, d, 2 d, .., and 0 between."""
    check_row(row)
    if not is_within(d, 1, 60):
        raise InvalidStep(d)
    check_many(many, 3000)
    if many > d * len(row):
        raise TooMany("places", 3000)
    spread = [0] * many
    for place in range(0, many, d):
        spread[place] = row[place // d]
    check_digits(spread)
    return spread


def section_of(row, m, t):
    """The row's numbers at t, m + t, 2 m + t, .., as far as it goes."""
    check_row(row)
    check_section(m, t)
    section = list(row[t::m])
    check_digits(section)
    return section


def first_unlike(row, other):
    """The first place at which both have unlike numbers, None if there is none as far as both go."""
    check_row(row)
    check_row(other)
    for place, (one, another) in enumerate(zip(row, other)):
        if one != another:
            return place
    return None
