"""Whether all sections of an orbit are divisible by a number for ever, and the papers that show it."""

from etaparts.checks import check_digits, check_divisor, check_many, check_section, is_integer, is_tagged, is_within
from etaparts.clearing import bound_told, clears, told_clearing
from etaparts.errors import TooMany
from etaparts.orbits import orbit_of
from etaparts.products import check_product
from etaparts.series import numbers_of
from etaparts.serving import row_broken


def decided_dividing(product, m, t, u):
    """The paper ("divisible", level, step, power), or ("place", rest, n, number) of the first number that spoils it."""
    paper = decided(product, m, t, u)
    if paper[0] == "place":
        check_digits([paper[3]])
    return paper


def decided(product, m, t, u):
    """What decided_dividing tells, however many digits the number has."""
    check_product(product)
    check_section(m, t)
    check_divisor(u)
    level, step, power, last = told_last(product, m, t)
    spoilt = first_spoilt(product, m, orbit_of(product, m, t), u, last)
    if spoilt is None:
        return ("divisible", level, step, power)
    rest, n = spoilt
    return ("place", rest, n, number_in(product, m, rest, n))


def told_last(product, m, t):
    """Level, step and power of the told clearing, and the last n, below 0 for none, at which numbers are looked at."""
    level, step, power, bound = told_clearing(product, m, t)
    if bound[0] > 200 * bound[1]:
        raise TooMany("places", 200)
    last = bound[0] // bound[1]
    if is_beyond(m, orbit_of(product, m, t), last):
        raise TooMany("places", 3000)
    return level, step, power, last


def is_beyond(m, rests, last):
    """Whether the numbers of these sections to the last n need a place beyond 3,000."""
    return m * last + rests[-1] > 3000


def first_spoilt(product, m, rests, u, last):
    """(rest, n) of the first number, by n, then by rest, that u doesn't divide; None if there is none to the last n."""
    begin = 0
    while begin <= last:
        # Most sections are spoilt early, so the row is made longer only by and by.
        end = min(last, 4 * begin + 8)
        row = numbers_of(product, m * end + rests[-1] + 1)
        for n in range(begin, end + 1):
            for rest in rests:
                if row[m * n + rest] % u != 0:
                    return (rest, n)
        begin = end + 1
    return None


def number_in(product, m, rest, n):
    """The number at n of the section by m and the rest."""
    return numbers_of(product, m * n + rest + 1)[-1]


def is_dividing(product, m, t, u):
    """Whether all sections of the orbit are divisible by u for ever."""
    return decided(product, m, t, u)[0] == "divisible"


def is_dividing_paper(product, m, t, u, value):
    """Whether any value is a paper that is taken."""
    check_product(product)
    check_section(m, t)
    check_divisor(u)
    if is_tagged(value, "divisible", 4):
        return is_right_clearing(product, m, t, u, value)
    if not is_tagged(value, "place", 4) or not is_within(value[2], 0, 200):
        return False
    return is_right_place(product, m, orbit_of(product, m, t), u, value)


def is_right_clearing(product, m, t, u, paper):
    level, step, power = paper[1:]
    if not is_within(level, 1, 120) or row_broken(product, m, t, level) is not None:
        return False
    if not clears(product, m, level, (step, power)):
        return False
    rests = orbit_of(product, m, t)
    number, under = bound_told(product, m, rests, level, (step, power))
    last = number // under
    if number > 200 * under or is_beyond(m, rests, last):
        return False
    return first_spoilt(product, m, rests, u, last) is None


def is_right_place(product, m, rests, u, paper):
    """Whether the paper tells a number of the orbit's sections, at whatever n, that u doesn't divide."""
    rest, n, number = paper[1:]
    if not is_integer(rest) or rest not in rests or not is_within(n, 0, 3000) or not is_integer(number):
        return False
    if m * n + rest > 3000 or number % u == 0:
        return False
    return number == number_in(product, m, rest, n)


def orbit_numbers(product, m, t, many):
    """The list, for each rest of the orbit, of the tuple (rest, list of its section's first many numbers)."""
    check_product(product)
    check_section(m, t)
    check_many(many, 200)
    rests = orbit_of(product, m, t)
    if is_beyond(m, rests, many - 1):
        raise TooMany("places", 3000)
    row = numbers_of(product, m * many)
    sections = [(rest, row[rest::m]) for rest in rests]
    for _, section in sections:
        check_digits(section)
    return sections
