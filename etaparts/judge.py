"""The judge: whether any value is a true claim, told by plain sums alone."""

from etaparts.checks import is_integer, is_within
from etaparts.clearing import bound_told, clears
from etaparts.dividing import first_spoilt, is_beyond, number_in
from etaparts.equal import place_not_nought
from etaparts.errors import NotFitting, TooMany
from etaparts.hecke import carried_numbers, has_placed, is_serving_prime, last_asked, placed_numbers
from etaparts.kinds import is_kind
from etaparts.multiples import first_beside
from etaparts.orbits import orbit_of
from etaparts.powers import unlike_place
from etaparts.products import is_product
from etaparts.serving import row_broken
from etaparts.squares import is_form
from etaparts.sums import first_place, is_sum, numbers_from, put_together, taken_off
from etaparts.thetas import form_product
from etaparts.things import bound_of_things, check_one_kind
from etaparts.trees import is_tree

# How many parts stand behind each word.
PARTS = {"dividing": 7, "kinds": 2, "multiple": 4, "nought": 2, "same": 3, "spoilt": 6, "ways": 2}


def claim_words():
    """The list of the tuples (word, how many parts), rising."""
    return [(word, PARTS[word]) for word in sorted(PARTS)]


def is_claim(value):
    """Whether any value is a claim, of whatever worth."""
    if not isinstance(value, tuple) or len(value) == 0 or not isinstance(value[0], str) or value[0] not in PARTS:
        return False
    return len(value) == 1 + PARTS[value[0]] and all([is_tree(part) for part in value[1:]])


def judged(value):
    """("ok", word) of a true claim, else ("bad", positions)."""
    if not is_claim(value):
        return ("bad", ())
    wrong = WRONG[value[0]]
    parts = value[1:]
    positions = wrong(*parts)
    return ("ok", value[0]) if positions is None else ("bad", positions)


# Each of these tells the positions of a claim that isn't true, None of a true one.

def wrong_in_nought(level, total):
    return wrong_in_same(level, total, ("sum", ()))


def wrong_in_same(level, total, other):
    if not is_within(level, 1, 120) or not is_sum_of_products(total) or not is_sum_of_products(other):
        return ()
    things = [thing for _, thing in total[1] + other[1]]
    try:
        check_one_kind(level, things)
    except NotFitting:
        return ()
    bound = bound_of_things(level, things)
    last = bound[0] // bound[1]
    if last > 3000:
        return ()
    parts, _ = put_together(total[1] + taken_off(other))
    first = first_place(things)
    at = place_not_nought(numbers_from(parts, first, max(last + 1 - first, 0)))
    return None if at is None else (first + at,)


def is_sum_of_products(value):
    return is_sum(value) and all([is_product(thing) for _, thing in value[1]])


def wrong_in_kinds(kind, other):
    if not is_kind(kind) or not is_kind(other):
        return ()
    place = unlike_place(kind, other)
    return None if place is None else (place,)


def is_section(product, m, t, u):
    """Whether they are a product, its section, and what may divide it."""
    return is_product(product) and is_within(m, 1, 30) and is_within(t, 0, m - 1) and is_within(u, 2, 1000)


def wrong_in_dividing(product, m, t, u, level, d, a):
    if not is_section(product, m, t, u) or not is_within(level, 1, 120):
        return ()
    if row_broken(product, m, t, level) is not None or not clears(product, m, level, (d, a)):
        return ()
    rests = orbit_of(product, m, t)
    bound = bound_told(product, m, rests, level, (d, a))
    last = bound[0] // bound[1]
    return () if is_beyond(m, rests, last) else first_spoilt(product, m, rests, u, last)


def wrong_in_spoilt(product, m, t, u, rest, n):
    if not is_section(product, m, t, u) or rest not in orbit_of(product, m, t):
        return ()
    if not is_within(n, 0, 3000) or m * n + rest > 3000:
        return ()
    return () if number_in(product, m, rest, n) % u == 0 else None


def wrong_in_ways(form, product):
    if not is_form(form):
        return ()
    try:
        told = form_product(form)
    except TooMany:
        return ()
    return None if product == told else ()


def wrong_in_multiple(level, product, prime, number):
    if not is_within(level, 1, 120) or not is_product(product) or not is_integer(number):
        return ()
    if not has_placed(level, product) or not is_serving_prime(level, prime):
        return ()
    last = last_asked(level, product)
    if prime * last > 3000:
        return ()
    placed = placed_numbers(product, prime * last + 1)
    place = first_beside(placed, carried_numbers(product, placed, prime, last + 1), number)
    return None if place is None else (place,)


WRONG = {"dividing": wrong_in_dividing, "kinds": wrong_in_kinds, "multiple": wrong_in_multiple,
         "nought": wrong_in_nought, "same": wrong_in_same, "spoilt": wrong_in_spoilt, "ways": wrong_in_ways}
