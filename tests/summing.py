"""Plain ways to reckon with sums of things, by fractions, and sums that the tests share."""

from fractions import Fraction
from math import floor, gcd

from asking import pair, product

from etaparts.divisorsums import divisor_row
from etaparts.series import product_row

GREAT = product((1, 24))
THREE, MINUS, LATE = product((1, -8), (2, 20), (4, -8)), product((1, 8), (2, -4)), product((2, -4), (4, 8))
JACOBI = ("sum", (((-16, 1), LATE), ((-1, 1), MINUS), ((1, 1), THREE)))
# The squares' rows of the weights 1, 4 and 6, with divisor sums of the same kinds.
TWO, EIGHT, TWELVE = product((1, -4), (2, 10), (4, -4)), product((1, -16), (2, 40), (4, -16)), product((1, -24), (2, 60), (4, -24))
# Two products of the level 120 that stand as far apart as that 3,000 places, and no fewer, are not above the bound; with
# the third one in the place of the second it is one place more.
FAR = product((1, -48), (2, -48), (3, -48), (4, -48), (6, 60), (10, -60), (15, 48), (20, 48), (24, -48), (30, 48), (40, 48),
              (60, 48))
JUST_NEAR = product((1, 54), (2, 48), (3, 54), (4, 36), (6, -60), (10, 60), (15, -48), (20, -48), (24, 48), (30, -48),
                    (40, -48), (60, -48))
TOO_FAR = product(*[(step, -power) for step, power in FAR[1]])


def a_sum(*terms):
    """The sum with these terms, put into sequence."""
    return ("sum", tuple(sorted(terms)))


def divisors(word, step):
    return ("divisors", word, step)


def shift_at(thing):
    if thing[0] == "divisors":
        return 0
    found = Fraction(sum(step * power for step, power in thing[1]), 24)
    assert found.denominator == 1
    return found.numerator


def thing_number(thing, place):
    """The thing's number at a place of its shifted series."""
    at = place - shift_at(thing)
    if at < 0:
        return Fraction(0)
    return Fraction(*divisor_row(thing, at + 1)[at]) if thing[0] == "divisors" else Fraction(product_row(thing, at + 1)[at])


def numbers_at(total, places):
    return [sum((Fraction(*ratio) * thing_number(thing, place) for ratio, thing in total[1]), Fraction(0))
            for place in places]


def first_of(total):
    return min([shift_at(thing) for _, thing in total[1]], default=0)


def plain_order(thing, level, end):
    if thing[0] == "divisors":
        return Fraction(0)
    width = Fraction(level, end * gcd(end, level // end))
    return width / 24 * sum(Fraction(gcd(end, step) ** 2 * power, step) for step, power in thing[1])


def plain_weight(thing):
    if thing[0] == "divisors":
        return {"third": 1, "quarter": 1, "two": 2, "four": 4, "six": 6}[thing[1]]
    return Fraction(sum(power for _, power in thing[1]), 2)


def plain_bound(level, things):
    """By the words: the weight times the index by 12, less the least orders as often as the ends stand."""
    if not things:
        return Fraction(0)
    index = Fraction(level)
    for prime in range(2, level + 1):
        if level % prime == 0 and all(prime % d for d in range(2, prime)):
            index *= 1 + Fraction(1, prime)
    bound = plain_weight(things[0]) * index / 12
    for end in range(1, level):
        if level % end == 0:
            shared = gcd(end, level // end)
            often = len([n for n in range(shared) if gcd(n, shared) == 1])
            bound -= often * min(plain_order(thing, level, end) for thing in things)
    return bound


def plain_decided(level, total):
    """The paper, by the numbers one behind the other."""
    bound = plain_bound(level, [thing for _, thing in total[1]])
    first = first_of(total)
    places = list(range(first, floor(bound) + 1))
    for place, number in zip(places, numbers_at(total, places)):
        if number != 0:
            return ("place", place, pair(number))
    return ("nought", level, pair(bound))
