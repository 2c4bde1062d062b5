"""Tables of what is divisible, for all sections by the first few m, and what tables find."""

from etaparts.checks import check_divisor, is_integer, is_listed, is_tagged, is_within
from etaparts.dividing import decided_dividing, is_dividing_paper, is_right_place
from etaparts.errors import InvalidMost, TooMany
from etaparts.orbits import orbits
from etaparts.products import check_product


def table(product, most, u):
    """The table: a list of tuples (m, orbit, answer)."""
    check_table(product, most, u)
    return [(m, tuple(rests), answer_told(product, m, rests[0], u)) for m, rests in orbits_to(product, most)]


def check_table(product, most, u):
    check_product(product)
    if not is_within(most, 2, 12):
        raise InvalidMost(most)
    check_divisor(u)


def orbits_to(product, most):
    """The list of the tuples (m, rests) of all orbits for m from 2 to most."""
    return [(m, rests) for m in range(2, most + 1) for rests in orbits(product, m)]


def answer_told(product, m, t, u):
    try:
        return decided_dividing(product, m, t, u)
    except TooMany as beyond:
        return ("untold", beyond.what)


def is_table(product, most, u, value):
    """Whether any value is a list as of a table, in which each answer is true."""
    check_table(product, most, u)
    lines = orbits_to(product, most)
    if not is_listed(value, len(lines), len(lines)):
        return False
    if not all([is_line(line, m, rests) for line, (m, rests) in zip(value, lines)]):
        return False
    return all([is_true(product, m, rests, u, line[2]) for line, (m, rests) in zip(value, lines)])


def is_line(value, m, rests):
    """Whether it is a tuple of three that begins with m and the tuple of the rests."""
    if not isinstance(value, tuple) or len(value) != 3 or not is_within(value[0], m, m):
        return False
    told = value[1]
    return isinstance(told, tuple) and all([is_integer(rest) for rest in told]) and list(told) == rests


def is_true(product, m, rests, u, answer):
    if is_tagged(answer, "untold", 2):
        return answer == answer_told(product, m, rests[0], u)
    if is_tagged(answer, "place", 4):
        return is_right_place(product, m, rests, u, answer)
    return is_dividing_paper(product, m, rests[0], u, answer)


def is_find(product, u, value):
    """Whether any value is a find for this divisor."""
    check_product(product)
    check_divisor(u)
    if not isinstance(value, tuple) or len(value) != 5 or not is_within(value[0], 2, 30):
        return False
    m, t = value[:2]
    return is_within(t, 0, m - 1) and is_dividing_paper(product, m, t, u, ("divisible",) + value[2:])
