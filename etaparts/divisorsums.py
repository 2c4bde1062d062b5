"""Totals over divisors, and the divisor sums that have them as their numbers."""

from etaparts.checks import check_many, check_number, is_tagged, is_within
from etaparts.divisors import divisors_of
from etaparts.errors import InvalidDivisors, InvalidWord
from etaparts.ratios import reduced

# For each word how many times the total a number is, how many times the step the own level, and the kind.
WORDS = {"third": (6, 3, (1, -3)), "quarter": (4, 4, (1, -1)), "two": (24, 1, (2, 1)), "four": (240, 1, (4, 1)),
         "six": (-504, 1, (6, 1))}


def is_word(value):
    return isinstance(value, str) and value in WORDS


def is_divisor_sum(value):
    """Whether any value is a divisor sum."""
    if not is_tagged(value, "divisors", 3) or not is_word(value[1]):
        return False
    word, step = value[1:]
    # Of "two" a number would be divided by step - 1.
    return is_within(step, 2 if word == "two" else 1, 60) and step * WORDS[word][1] <= 120


def check_divisor_sum(divisors):
    if not is_divisor_sum(divisors):
        raise InvalidDivisors(divisors)


def worth_of(word, divisor):
    """What the divisor puts to a total of this word."""
    if word == "third":
        return (0, 1, -1)[divisor % 3]
    if word == "quarter":
        return (0, 1, 0, -1)[divisor % 4]
    if word == "two":
        return divisor
    return divisor ** 3 if word == "four" else divisor ** 5


def divisor_total(word, number):
    """The total of the number."""
    if not is_word(word):
        raise InvalidWord(word)
    check_number(number, 1, 3000)
    return plain_total(word, number)


def plain_total(word, number):
    return sum([worth_of(word, divisor) for divisor in divisors_of(number)])


def totals_below(word, many):
    """The list of the totals at the places below many, 0 at the place 0: each divisor is put to its multiples."""
    totals = [0] * many
    for divisor in range(1, many):
        worth = worth_of(word, divisor)
        for place in range(divisor, many, divisor):
            totals[place] += worth
    return totals


def own_level(divisors):
    """The least level that the divisor sum fits."""
    check_divisor_sum(divisors)
    return own_level_of(divisors)


def own_level_of(divisors):
    word, step = divisors[1:]
    return step * WORDS[word][1]


def kind_of_divisors(divisors):
    return WORDS[divisors[1]][2]


def under_of(divisors):
    """What is under all numbers of the divisor sum, if they are told as integers."""
    word, step = divisors[1:]
    return step - 1 if word == "two" else 1


def number_over(divisors, total, inner):
    """The number at a place with this total, and the inner one at the place by the step, as under_of tells."""
    word, step = divisors[1:]
    times = WORDS[word][0]
    return times * (total - step * inner) if word == "two" else times * inner


def integers_of(divisors, many):
    """The first so many numbers, as integers over what under_of tells."""
    word, step = divisors[1:]
    totals = totals_below(word, many)
    row = [under_of(divisors)]
    for place in range(1, many):
        inner = totals[place // step] if place % step == 0 else 0
        row.append(number_over(divisors, totals[place], inner))
    return row[:many]


def divisor_row(divisors, many):
    """The list of its first so many numbers, ratios."""
    check_divisor_sum(divisors)
    check_many(many, 3000)
    return [reduced(number, under_of(divisors)) for number in integers_of(divisors, many)]


def plain_divisor_row(divisors, many):
    """What divisor_row tells, place by place."""
    check_divisor_sum(divisors)
    check_many(many, 300)
    word, step = divisors[1:]
    row = [(1, 1)]
    for place in range(1, many):
        inner = plain_total(word, place // step) if place % step == 0 else 0
        row.append(reduced(number_over(divisors, plain_total(word, place), inner), under_of(divisors)))
    return row[:many]
