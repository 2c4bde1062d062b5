"""The powers of a kind by places, by which kinds are counted, compared and told as products."""

from math import gcd, lcm

from etaparts.checks import check_many
from etaparts.divisors import divisors_of
from etaparts.endless import row_by_powers
from etaparts.kinds import check_kind, check_part, colours_most
from etaparts.products import is_product


def power_at(kind, part):
    """The power at the place."""
    check_kind(kind)
    check_part(part)
    return power_by_place(kind, part)


def power_by_place(kind, place):
    """What power_at tells, at any place from 1 on."""
    power = -colours_most(kind, place)[0]
    for bound in range(1, 7):
        if place % (bound + 1) == 0:
            colours, most = colours_most(kind, place // (bound + 1))
            if most == bound:
                power += colours
    return power


def period(kind):
    """The period: powers at places that differ by it are the same."""
    check_kind(kind)
    modulus, rows = kind[1:]
    length = modulus
    for _, most in rows:
        if most > 0:
            length = lcm(length, modulus * (most + 1))
    return length


def powers_row(kind, many):
    """The list of the powers at 1, 2, .., so many."""
    check_kind(kind)
    check_many(many, 3000)
    return [power_by_place(kind, place) for place in range(1, many + 1)]


def kind_row(kind, many):
    """How many partitions there are of 0, 1, .., so many numbers, by powers."""
    check_kind(kind)
    check_many(many, 3000)
    return row_by_powers([0] + powers_row(kind, many), many)


def plain_kind_row(kind, many):
    """What kind_row tells, part by part."""
    check_kind(kind)
    check_many(many, 300)
    row = ([1] + [0] * many)[:many]
    for part in range(1, many):
        colours, most = colours_most(kind, part)
        for _ in range(colours):
            row = part_joined(row, part, most)
    return row


def part_joined(row, part, most):
    """The row with one part more: at each place all numbers of times are summed that it may stand."""
    joined = []
    for place in range(len(row)):
        times = place // part
        if most > 0:
            times = min(times, most)
        joined.append(sum([row[place - part * often] for often in range(times + 1)]))
    return joined


def unlike_place(kind, other):
    """The first place at which both have unlike powers, None if they have as many partitions of every n."""
    check_kind(kind)
    check_kind(other)
    for place in range(1, lcm(period(kind), period(other)) + 1):
        if power_by_place(kind, place) != power_by_place(other, place):
            return place
    return None


def as_product(kind):
    """The product by which the kind is counted, None if there is none."""
    check_kind(kind)
    length = period(kind)
    at_divisors = {divisor: power_by_place(kind, divisor) for divisor in divisors_of(length)}
    for place in range(1, length + 1):
        if power_by_place(kind, place) != at_divisors[gcd(place, length)]:
            return None
    product = ("product", tuple(steps_found(at_divisors)))
    return product if is_product(product) else None


def steps_found(at_divisors):
    """The tuples (step, power) that together have these powers at the divisors, rising; none with 0."""
    found = []
    for divisor in at_divisors:
        lesser = sum([power for step, power in found if divisor % step == 0])
        if at_divisors[divisor] != lesser:
            found.append((divisor, at_divisors[divisor] - lesser))
    return found
