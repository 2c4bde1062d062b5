"""Sums of things, each taken a ratio times, and their numbers."""

from math import lcm

from etaparts.checks import check_level, check_many, is_listed, is_pair, is_rising, is_tagged
from etaparts.errors import InvalidSum, InvalidTerms, TooMany
from etaparts.levels import shift_sum
from etaparts.ratios import check_ratio, is_ratio, reduced
from etaparts.things import check_one_kind, is_of_divisors, is_thing, thing_integers, thing_under


def is_sum(value):
    """Whether any value is a sum."""
    if not is_tagged(value, "sum", 2):
        return False
    terms = value[1]
    if not isinstance(terms, tuple) or len(terms) > 8 or not all([is_term(term) for term in terms]):
        return False
    return is_rising(terms) and len({thing for _, thing in terms}) == len(terms)


def is_ratio_thing(value):
    return is_pair(value) and is_ratio(value[0]) and is_thing(value[1])


def is_term(value):
    return is_ratio_thing(value) and value[0][0] != 0


def check_sum(total):
    if not is_sum(total):
        raise InvalidSum(total)


def sum_of(terms):
    """The sum of some terms."""
    if not is_listed(terms, 0, 60) or not all([is_ratio_thing(term) for term in terms]):
        raise InvalidTerms(terms)
    parts, under = put_together(terms)
    return sum_made(parts, under)


def put_together(terms):
    """A dict that tells for each thing how often it is taken, as an integer that isn't 0, and what is under them."""
    under = 1
    for ratio, _ in terms:
        under = lcm(under, ratio[1])
    parts = {}
    for ratio, thing in terms:
        parts[thing] = parts.get(thing, 0) + ratio[0] * (under // ratio[1])
    return {thing: parts[thing] for thing in parts if parts[thing] != 0}, under


def sum_made(parts, under):
    """The sum that put_together tells in this way."""
    check_terms(parts)
    terms = [(reduced(parts[thing], under), thing) for thing in parts]
    return ("sum", tuple(sorted(terms)))


def check_terms(parts):
    if len(parts) > 8:
        raise TooMany("terms", 8)


def sum_added(total, other):
    """The sum of both."""
    check_sum(total)
    check_sum(other)
    parts, under = put_together(total[1] + other[1])
    return sum_made(parts, under)


def sum_less(total, other):
    """The one, the other one taken from it."""
    check_sum(total)
    check_sum(other)
    parts, under = put_together(total[1] + taken_off(other))
    return sum_made(parts, under)


def taken_off(total):
    """The terms of the sum, with the other sign each."""
    return tuple([((-ratio[0], ratio[1]), thing) for ratio, thing in total[1]])


def sum_scaled(total, ratio):
    """The sum taken a ratio times."""
    check_sum(total)
    check_ratio(ratio)
    if ratio[0] == 0:
        return ("sum", ())
    parts, under = put_together(total[1])
    return sum_made({thing: parts[thing] * ratio[0] for thing in parts}, under * ratio[1])


def sum_row(level, total, many):
    """The tuple of the first place and the list of the numbers at many places from there on, ratios."""
    check_level(level)
    check_sum(total)
    check_many(many, 300)
    parts, under = put_together(total[1])
    check_one_kind(level, list(parts))
    first = first_place(list(parts))
    numbers = numbers_from(parts, first, many)
    under *= shared_under(parts)
    return (first, [reduced(number, under) for number in numbers])


def first_place(things):
    """The least shift of things that fit, 0 without things."""
    return min([place_of(thing) for thing in things], default=0)


def place_of(thing):
    """The shift of a thing that fits some level: an integer."""
    return 0 if is_of_divisors(thing) else shift_sum(thing) // 24


def row_from(thing, first, many):
    """The thing's numbers at many places from the first one on, as integers over what thing_under tells."""
    ahead = min(place_of(thing) - first, many)
    return [0] * ahead + thing_integers(thing, many - ahead)


def shared_under(things):
    """What is under the numbers of all things, if they are told as integers."""
    under = 1
    for thing in things:
        under = lcm(under, thing_under(thing))
    return under


def numbers_from(parts, first, many):
    """The sum of the things' numbers at many places from the first one on, as integers over what shared_under tells."""
    under = shared_under(parts)
    numbers = [0] * many
    for thing in parts:
        times = parts[thing] * (under // thing_under(thing))
        numbers = [number + times * more for number, more in zip(numbers, row_from(thing, first, many))]
    return numbers
