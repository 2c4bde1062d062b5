"""Sums that are nought, or the same for ever, and the papers that show it."""

from etaparts.checks import check_level, is_integer, is_tagged
from etaparts.errors import TooMany
from etaparts.ratios import is_ratio, reduced
from etaparts.sums import check_sum, check_terms, first_place, numbers_from, put_together, shared_under, taken_off
from etaparts.things import bound_of_things, check_one_kind


def decided_nought(level, total):
    """The paper ("nought", level, bound), or ("place", place, value) with the first number that is not 0."""
    parts, under = asked(level, total)
    return decided(level, parts, under)


def asked(level, total):
    """What put_together tells of a sum that fits the level."""
    check_level(level)
    check_sum(total)
    parts, under = put_together(total[1])
    check_one_kind(level, list(parts))
    return parts, under


def decided(level, parts, under):
    things = list(parts)
    bound = bound_of_things(level, things)
    first = first_place(things)
    numbers = numbers_from(parts, first, places_to(first, bound))
    at = place_not_nought(numbers)
    if at is None:
        return ("nought", level, bound)
    return ("place", first + at, reduced(numbers[at], under * shared_under(parts)))


def places_to(first, bound):
    """How many places there are from the first one on that are not above the bound."""
    many = bound[0] // bound[1] - first + 1
    if many > 3000:
        raise TooMany("places", 3000)
    return max(many, 0)


def place_not_nought(numbers):
    """The first place at which a number is not 0, None if there is none."""
    for place, number in enumerate(numbers):
        if number != 0:
            return place
    return None


def is_nought(level, total):
    """Whether the sum is nought."""
    parts, _ = asked(level, total)
    return has_noughts(level, parts)


def has_noughts(level, parts):
    """Whether all numbers to the bound are 0."""
    things = list(parts)
    first = first_place(things)
    many = places_to(first, bound_of_things(level, things))
    return place_not_nought(numbers_from(parts, first, many)) is None


def is_nought_paper(level, total, value):
    """Whether any value is a paper for the sum."""
    parts, under = asked(level, total)
    if is_tagged(value, "nought", 3):
        return is_right_bound(level, parts, value) and has_noughts(level, parts)
    return is_tagged(value, "place", 3) and is_right_place(parts, under, value)


def is_right_bound(level, parts, paper):
    if not is_integer(paper[1]) or not is_ratio(paper[2]):
        return False
    return paper[1] == level and paper[2] == bound_of_things(level, list(parts))


def is_right_place(parts, under, paper):
    """Whether the number at the place is what the paper tells, and not 0."""
    place, told = paper[1:]
    first = first_place(list(parts))
    if not is_integer(place) or not first <= place < first + 3000 or not is_ratio(told) or told[0] == 0:
        return False
    number = numbers_from(parts, first, place - first + 1)[-1]
    return number * told[1] == told[0] * under * shared_under(parts)


def same_for_ever(level, total, other):
    """Whether both are the same for ever."""
    parts, _ = both_asked(level, total, other)
    return has_noughts(level, parts)


def both_asked(level, total, other):
    """What put_together tells of the one sum less the other, which fit the level with one kind."""
    check_level(level)
    check_sum(total)
    check_sum(other)
    # Terms that come to 0 have to fit as well.
    check_one_kind(level, [thing for _, thing in total[1] + other[1]])
    return put_together(total[1] + taken_off(other))


def decided_same(level, total, other):
    """What decided_nought tells of the one less the other."""
    parts, under = both_asked(level, total, other)
    check_terms(parts)
    return decided(level, parts, under)
