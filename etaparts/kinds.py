"""Kinds of partitions: for each rest by a modulus, in how many colours a part comes, and how often."""

from etaparts.checks import is_pair, is_tagged, is_within
from etaparts.errors import InvalidKind, InvalidPart


def is_kind(value):
    """Whether any value is a kind."""
    if not is_tagged(value, "kind", 3) or not is_within(value[1], 1, 12):
        return False
    modulus, rows = value[1:]
    if not isinstance(rows, tuple) or len(rows) != modulus:
        return False
    return all([is_colours_most(row) for row in rows])


def is_colours_most(value):
    if not is_pair(value) or not is_within(value[0], 0, 6) or not is_within(value[1], 0, 6):
        return False
    colours, most = value
    return colours > 0 or most == 0


def check_kind(kind):
    if not is_kind(kind):
        raise InvalidKind(kind)


def check_part(part):
    if not is_within(part, 1, 6000):
        raise InvalidPart(part)


def colours_most(kind, part):
    """The tuple (colours, most) of a part, however great it is."""
    modulus, rows = kind[1:]
    return rows[part % modulus]


def colours_of(kind, part):
    """In how many colours the part comes."""
    check_kind(kind)
    check_part(part)
    return colours_most(kind, part)[0]


def most_of(kind, part):
    """How often the part may stand in each colour, 0 if as often as wished."""
    check_kind(kind)
    check_part(part)
    return colours_most(kind, part)[1]
