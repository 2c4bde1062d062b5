"""Rows of ways, the products that have them as their numbers, and forms joined and compared."""

from etaparts.checks import check_many
from etaparts.errors import TooMany
from etaparts.products import product_of
from etaparts.squares import check_form, row_of_ways


def ways_row(form, many):
    """The row of ways of 0 to many less 1."""
    check_form(form)
    check_many(many, 3000)
    return row_of_ways(form[1], many)


def gaps(form, many):
    """The rising list of the counts below many that have no way."""
    check_form(form)
    check_many(many, 3000)
    return [number for number, often in enumerate(row_of_ways(form[1], many)) if often == 0]


def form_product(form):
    """The product whose numbers are the ways."""
    check_form(form)
    powers = {}
    for weight in form[1]:
        for step, power in ((weight, -2), (2 * weight, 5), (4 * weight, -2)):
            powers[step] = powers.get(step, 0) + power
    return product_of(powers)


def joined(form, other):
    """The form that has the weights of both."""
    check_form(form)
    check_form(other)
    weights = tuple(sorted(form[1] + other[1]))
    if len(weights) > 8:
        raise TooMany("weights", 8)
    return ("squares", weights)


def same_ways(form, other):
    """Whether both have as many ways of every n."""
    return first_unlike_ways(form, other) is None


def first_unlike_ways(form, other):
    """The first n of which they have unlike many ways, None if there is none."""
    check_form(form)
    check_form(other)
    # Below the least weight that one has more often all is alike, there the ways with this weight alone are not.
    for weight in range(1, 13):
        if form[1].count(weight) != other[1].count(weight):
            return weight
    return None
