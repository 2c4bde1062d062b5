"""Things, which are products or divisor sums: what both tell at a level."""

from etaparts.bounds import bound_by
from etaparts.checks import check_level
from etaparts.divisors import divisors_of
from etaparts.divisorsums import divisor_row, integers_of, is_divisor_sum, kind_of_divisors, own_level_of, under_of
from etaparts.ends import check_end, order_part, order_parts
from etaparts.errors import InvalidThing, NotFitting
from etaparts.fitting import kind_told, lacking
from etaparts.levels import shift_sum
from etaparts.products import is_product
from etaparts.ratios import reduced
from etaparts.series import numbers_of, product_row


def is_thing(value):
    """Whether any value is a thing."""
    return is_product(value) or is_divisor_sum(value)


def check_thing(thing):
    if not is_thing(thing):
        raise InvalidThing(thing)


def is_of_divisors(thing):
    return thing[0] == "divisors"


def thing_fits(thing, level):
    """Whether the thing fits the level."""
    check_thing(thing)
    check_level(level)
    return has_fit(thing, level)


def has_fit(thing, level):
    if is_of_divisors(thing):
        return level % own_level_of(thing) == 0
    return lacking(thing, level) == []


def check_fit(thing, level):
    if not has_fit(thing, level):
        raise NotFitting()


def thing_kind(thing, level):
    """The kind of a thing that fits the level."""
    check_thing(thing)
    check_level(level)
    check_fit(thing, level)
    return kind_of_thing(thing)


def kind_of_thing(thing):
    return kind_of_divisors(thing) if is_of_divisors(thing) else kind_told(thing)


def check_one_kind(level, things):
    """All things must fit the level, and have one kind."""
    for thing in things:
        check_fit(thing, level)
    kinds = [kind_of_thing(thing) for thing in things]
    if any([kind != kinds[0] for kind in kinds]):
        raise NotFitting()


def thing_shift(thing):
    """The shift of the thing."""
    check_thing(thing)
    return (0, 1) if is_of_divisors(thing) else reduced(shift_sum(thing), 24)


def thing_row(thing, many):
    """The list of so many of its numbers, ratios, from its shift on."""
    check_thing(thing)
    if is_of_divisors(thing):
        return divisor_row(thing, many)
    return [(number, 1) for number in product_row(thing, many)]


def thing_under(thing):
    """What is under all numbers of the thing, if they are told as integers."""
    return under_of(thing) if is_of_divisors(thing) else 1


def thing_integers(thing, many):
    """The first so many numbers, as integers over what thing_under tells, however many digits they have."""
    return integers_of(thing, many) if is_of_divisors(thing) else numbers_of(thing, many)


def thing_order(thing, level, end):
    """The order of the thing at the end."""
    check_thing(thing)
    check_level(level)
    check_end(level, end)
    check_fit(thing, level)
    return (0, 1) if is_of_divisors(thing) else reduced(order_part(thing, level, end), 24 * level)


def parts_at_ends(thing, level):
    """The orders at all ends, each in parts of which 24 times the level make 1."""
    return [0 for _ in divisors_of(level)] if is_of_divisors(thing) else order_parts(thing, level)


def bound_of_things(level, things):
    """The bound of things of one kind, 0 without things."""
    if len(things) == 0:
        return (0, 1)
    weight, _ = kind_of_thing(things[0])
    return bound_by(level, weight, [parts_at_ends(thing, level) for thing in things])
