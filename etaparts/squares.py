"""Forms, sums of squares with weights, and the ways in which they tell a number."""

from math import isqrt

from etaparts.checks import check_digits, check_number, is_integer, is_listed, is_tagged, is_within
from etaparts.errors import InvalidForm, InvalidRow, TooMany


def is_form(value):
    """Whether any value is a form."""
    if not is_tagged(value, "squares", 2):
        return False
    weights = value[1]
    if not isinstance(weights, tuple) or not 1 <= len(weights) <= 8:
        return False
    if not all([is_within(weight, 1, 12) for weight in weights]):
        return False
    return all([ahead <= behind for ahead, behind in zip(weights, weights[1:])])


def check_form(form):
    if not is_form(form):
        raise InvalidForm(form)


def value_of(form, row):
    """The sum of weight times the square of the number at the same position."""
    check_form(form)
    weights = form[1]
    if not is_listed(row, len(weights), len(weights)) or not all([is_integer(x) for x in row]):
        raise InvalidRow(row)
    value = sum([weight * x * x for weight, x in zip(weights, row)])
    check_digits([value])
    return value


def ways(form, number):
    """How many ways the number has."""
    check_form(form)
    check_number(number, 0, 3000)
    return row_of_ways(form[1], number + 1)[number]


def row_of_ways(weights, many):
    """How many ways 0, 1, .. have by these weights, so many places."""
    row = ([1] + [0] * many)[:many]
    for weight in weights:
        row = weight_joined(row, weight)
    return row


def weight_joined(row, weight):
    """The row of ways with one weight more: at n what was at n - weight x x, for all integers x."""
    joined = list(row)
    x = 1
    while weight * x * x < len(row):
        value = weight * x * x
        for place in range(value, len(row)):
            # With x and with -x.
            joined[place] += 2 * row[place - value]
        x += 1
    return joined


def plain_ways(form, number):
    """How many ways the number has, by listing."""
    check_form(form)
    check_number(number, 0, 3000)
    return listed_ways(form[1], number)


def listed_ways(weights, left):
    """How many rows by these weights have the value left, listed number by number."""
    weight = weights[0]
    root = isqrt(left // weight)
    if len(weights) == 1:
        # The last number is told by what is left, but for its sign.
        if weight * root * root != left:
            return 0
        return 1 if root == 0 else 2
    found = listed_ways(weights[1:], left)
    for x in range(1, root + 1):
        # What follows behind -x is what follows behind x.
        found += 2 * listed_ways(weights[1:], left - weight * x * x)
    return found


def rows_of(form, number):
    """The sorted list of the ways."""
    check_form(form)
    check_number(number, 0, 3000)
    weights = form[1]
    # Without a look at what the weights behind a position can tell there may be far more dead ends than ways.
    behind = [row_of_ways(weights[position:], number + 1) for position in range(len(weights) + 1)]
    if behind[0][number] > 2000:
        raise TooMany("rows", 2000)
    return rows_behind(weights, behind, 0, number)


def rows_behind(weights, behind, position, left):
    """The sorted list of the rows by the weights from the position on that have the value left."""
    if position == len(weights):
        return [()]
    found = []
    weight = weights[position]
    root = isqrt(left // weight)
    for x in range(-root, root + 1):
        rest = left - weight * x * x
        if behind[position + 1][rest] > 0:
            found += [(x,) + row for row in rows_behind(weights, behind, position + 1, rest)]
    return found
