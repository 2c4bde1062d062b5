"""Things that hang on others, and the ratios by which they are told as these."""

from math import gcd

from etaparts.checks import check_level, is_listed
from etaparts.equal import place_not_nought, places_to
from etaparts.errors import InvalidThings
from etaparts.ratios import reduced
from etaparts.sums import first_place, row_from
from etaparts.things import bound_of_things, check_one_kind, check_thing, is_thing, thing_under


def told_as(level, thing, others):
    """The list of the ratios by which the thing is told as the others, None if it is not."""
    check_level(level)
    check_thing(thing)
    check_things(others, 7)
    things = list(others) + [thing]
    check_one_kind(level, things)
    for position, multiples in noughts_made(level, things):
        if position == len(others):
            return ratios_of(position, multiples)
    return None


def check_things(things, most):
    if not is_listed(things, 1, most) or not all([is_thing(thing) for thing in things]):
        raise InvalidThings(things)
    if len({thing for thing in things}) < len(things):
        raise InvalidThings(things)


def hang_on(level, things):
    """The list of the positions of the things that hang on the ones ahead of them."""
    check_level(level)
    check_things(things, 8)
    check_one_kind(level, things)
    return [position for position, _ in noughts_made(level, things)]


def relations(level, things):
    """The list of the tuples of such a position and the list of the ratios for the things ahead of it."""
    check_level(level)
    check_things(things, 8)
    check_one_kind(level, things)
    return [(position, ratios_of(position, multiples)) for position, multiples in noughts_made(level, things)]


def ratios_of(position, multiples):
    """The ratios for the things ahead of the position, if so many of each come to nought with it."""
    return [reduced(-multiple, multiples[position]) for multiple in multiples[:position]]


def noughts_made(level, things):
    """For each thing that hangs on the ones ahead the tuple (position, how many of each thing come to nought).

    Things that hang on the ones ahead of them are taken 0 times in what comes behind.
    """
    first = first_place(things)
    many = places_to(first, bound_of_things(level, things))
    found = []
    parting = []
    for position, thing in enumerate(things):
        # Behind the numbers stands of which things, each how often, they are made.
        made_of = [0] * len(things)
        made_of[position] = thing_under(thing)
        row = cleared(row_from(thing, first, many) + made_of, parting)
        place = place_not_nought(row[:many])
        if place is None:
            found.append((position, row[many:]))
        else:
            parting.append((place, row))
    return found


def cleared(row, parting):
    """The row, so often as is needed, less multiples of the parting ones, so that it is 0 at the place of each."""
    for place, other in parting:
        if row[place] != 0:
            row = shortened([other[place] * one - row[place] * another for one, another in zip(row, other)])
    return row


def shortened(row):
    """The row by the greatest divisor that all its numbers have."""
    shared = 0
    for number in row:
        shared = gcd(shared, number)
        if shared == 1:
            return row
    return [number // shared for number in row]
