"""The greatest divisor of an orbit's sections, and a search of all divisibilities for the first few m."""

from math import gcd

from etaparts.checks import check_digits, check_section, is_pair, is_within
from etaparts.dividing import told_last
from etaparts.errors import InvalidMost, InvalidSection
from etaparts.orbits import orbit_of
from etaparts.products import check_product
from etaparts.series import numbers_of
from etaparts.tables import table


def greatest_divisor(product, m, t):
    """The greatest count that divides all numbers of all sections of the orbit, for ever; 0 if all of them are 0."""
    check_product(product)
    check_section(m, t)
    divisor = divisor_shared(product, m, t)
    check_digits([divisor])
    return divisor


def divisor_shared(product, m, t):
    """What greatest_divisor tells, however many digits it has."""
    last = told_last(product, m, t)[3]
    rests = orbit_of(product, m, t)
    row = numbers_of(product, max(m * (last + 1), 0))
    divisor = 0
    for rest in rests:
        for number in row[rest::m]:
            divisor = gcd(divisor, number)
    return divisor


def divisors_told(product, m, t, most):
    """The rising list of the u from 2 to most by which all sections of the orbit are divisible."""
    check_product(product)
    check_section(m, t)
    if not is_within(most, 2, 1000):
        raise InvalidMost(most)
    divisor = divisor_shared(product, m, t)
    return [u for u in range(2, most + 1) if divisor % u == 0]


def all_dividing(product, most, u):
    """The rising list of the finds that the table tells."""
    return [(m, t) + answer[1:] for m, t, answer in told_sections(product, most, u)]


def told_sections(product, most, u):
    """The rising list of the tuples (m, t, paper) of the sections that the table tells as divisible."""
    found = []
    for m, rests, answer in table(product, most, u):
        if answer[0] == "divisible":
            found.extend([(m, t, answer) for t in rests])
    return sorted(found)


def least_dividing(product, most, u):
    """The rising list of the tuples (m, t) of the least finds."""
    sections = [(m, t) for m, t, _ in told_sections(product, most, u)]
    return [section for section in sections if not any([is_following(section, other) for other in sections])]


def first_dividing(product, most, u):
    """The first tuple of the least finds, None if there are none."""
    # What a section follows from has a lesser m, so the first find of all is a least one.
    sections = told_sections(product, most, u)
    return sections[0][:2] if sections else None


def follows(section, other):
    """Whether the section's numbers are among the other one's, by a lesser m."""
    check_one_section(section)
    check_one_section(other)
    return is_following(section, other)


def check_one_section(section):
    if not is_pair(section) or not is_within(section[0], 1, 30) or not is_within(section[1], 0, section[0] - 1):
        raise InvalidSection(section)


def is_following(section, other):
    return section[0] % other[0] == 0 and other[0] < section[0] and section[1] % other[0] == other[1]
