"""What more than one file asks of the values that it is passed."""

from etaparts.errors import InvalidDivisor, InvalidLevel, InvalidMany, InvalidNumber, InvalidRest, InvalidRow
from etaparts.errors import InvalidStep, TooMany


def is_integer(value):
    """Whether it is an int; bool, which is an int to Python, is none here."""
    return isinstance(value, int) and not isinstance(value, bool)


def is_within(value, low, high):
    return is_integer(value) and low <= value <= high


def is_tagged(value, word, length):
    """Whether it is a tuple of this length that begins with the word."""
    return isinstance(value, tuple) and len(value) == length and isinstance(value[0], str) and value[0] == word


def is_pair(value):
    return isinstance(value, tuple) and len(value) == 2


def is_rising(numbers):
    """Whether each number is above the one ahead of it."""
    return all([ahead < behind for ahead, behind in zip(numbers, numbers[1:])])


def is_listed(value, least, most):
    """Whether it is a list, or a tuple, with so many elements."""
    return isinstance(value, (list, tuple)) and least <= len(value) <= most


def is_row(value):
    if not isinstance(value, (list, tuple)) or len(value) > 3000:
        return False
    return all([is_integer(number) for number in value])


def check_row(row):
    if not is_row(row):
        raise InvalidRow(row)


def check_many(many, most):
    if not is_within(many, 0, most):
        raise InvalidMany(many)


def check_number(number, low, high):
    if not is_within(number, low, high):
        raise InvalidNumber(number)


def check_integer(number):
    if not is_integer(number):
        raise InvalidNumber(number)


def check_level(level):
    if not is_within(level, 1, 120):
        raise InvalidLevel(level)


def check_step(m):
    if not is_within(m, 1, 30):
        raise InvalidStep(m)


def check_section(m, t):
    check_step(m)
    if not is_within(t, 0, m - 1):
        raise InvalidRest(t)


def check_divisor(u):
    if not is_within(u, 2, 1000):
        raise InvalidDivisor(u)


def check_digits(numbers):
    # An exponent is at most 64 in this program, so 10 ** 400 is told in two steps.
    least_beyond = (10 ** 50) ** 8
    if any([abs(number) >= least_beyond for number in numbers]):
        raise TooMany("digits", 400)
