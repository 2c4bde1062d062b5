"""Whether a prime carries the placed numbers to a multiple of themselves, and numbers that are told by primes."""

from etaparts.checks import check_digits, check_integer, check_level, is_within
from etaparts.divisors import factored
from etaparts.errors import InvalidTarget, NotMultiple, NotOne, TooMany
from etaparts.hecke import carried_by, carried_numbers, check_carried, check_prime, first_placed, is_serving_prime
from etaparts.hecke import last_asked, placed_numbers
from etaparts.products import check_product


def decided_multiple(level, product, prime):
    """("multiple", l), or ("place", n, c(n) - l b(n)) with the first n at which this isn't 0."""
    check_asked(level, product, prime)
    check_carried(level, product)
    check_places(level, product, prime)
    answer = decided(level, product, prime, placed_to(level, product, prime))
    check_digits(answer[-1:])
    return answer


def check_asked(level, product, prime):
    check_level(level)
    check_product(product)
    check_prime(level, prime)


def check_places(level, product, prime):
    if prime * last_asked(level, product) > 3000:
        raise TooMany("places", 3000)


def placed_to(level, product, prime):
    """The placed numbers that are needed for this prime, and for all lesser ones."""
    return placed_numbers(product, prime * last_asked(level, product) + 1)


def decided(level, product, prime, placed):
    """What decided_multiple tells, however many digits the numbers have."""
    carried = carried_numbers(product, placed, prime, last_asked(level, product) + 1)
    number = carried[first_placed(product)]
    place = first_beside(placed, carried, number)
    return ("multiple", number) if place is None else ("place", place, carried[place] - number * placed[place])


def first_beside(placed, carried, number):
    """The first place at which the carried number is not this many times the placed one, None if there is none."""
    for place, told in enumerate(carried):
        if told != number * placed[place]:
            return place
    return None


def is_multiple(level, product, prime, number):
    """Whether the prime carries the numbers to this many times themselves."""
    check_asked(level, product, prime)
    check_integer(number)
    check_carried(level, product)
    check_places(level, product, prime)
    return decided(level, product, prime, placed_to(level, product, prime)) == ("multiple", number)


def multiples_to(level, product, most):
    """The list of the tuples (prime, l) for all serving primes to most, l None where there is none."""
    check_level(level)
    check_product(product)
    if not is_within(most, 0, 97):
        raise InvalidTarget(most)
    check_carried(level, product)
    primes = [prime for prime in range(most + 1) if is_serving_prime(level, prime)]
    for prime in primes:
        check_places(level, product, prime)
    placed = placed_to(level, product, max(primes, default=0))
    found = [(prime, number_for(level, product, prime, placed)) for prime in primes]
    check_digits([number for _, number in found if number is not None])
    return found


def number_for(level, product, prime, placed):
    """The number by which the prime carries the placed numbers to a multiple, None if there is none."""
    answer = decided(level, product, prime, placed)
    return answer[1] if answer[0] == "multiple" else None


def told_by_primes(level, product, target):
    """b(target), told by the numbers at its primes alone."""
    check_level(level)
    check_product(product)
    if not is_within(target, 1, 1000000000):
        raise InvalidTarget(target)
    # An even target has the prime 2, which never serves.
    primes = factored(target)
    if not all([is_serving_prime(level, prime) for prime, _ in primes]):
        raise InvalidTarget(target)
    check_carried(level, product)
    if first_placed(product) != 1:
        raise NotOne()
    told = 1
    for prime, often in primes:
        check_places(level, product, prime)
        number = number_for(level, product, prime, placed_to(level, product, prime))
        if number is None:
            raise NotMultiple(prime)
        told *= number_at_power(number, carried_by(product, prime), often)
    check_digits([told])
    return told


def number_at_power(number, factor, often):
    """b(p^often), told by b(p) and by e p^(weight - 1)."""
    ahead, here = 0, 1
    for _ in range(often):
        ahead, here = here, number * here - factor * ahead
    return here
