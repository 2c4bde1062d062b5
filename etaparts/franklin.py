"""Franklin's exchange of unlike parts, and the signs that it leaves."""

from etaparts.checks import check_many
from etaparts.errors import InvalidParts
from etaparts.glaisher import check_parts, check_total, has_few


def exchanged(parts):
    """What unlike parts are exchanged into, None if they are kept."""
    check_unlike(parts)
    if len(parts) == 0:
        return None
    least = parts[-1]
    run = run_of(parts)
    if run == len(parts) and least in (run, run + 1):
        return None
    if least <= run:
        return tuple([part + 1 for part in parts[:least]]) + tuple(parts[least:-1])
    return tuple([part - 1 for part in parts[:run]]) + tuple(parts[run:]) + (run,)


def check_unlike(parts):
    check_parts(parts)
    if not has_few(2, parts):
        raise InvalidParts(parts)


def run_of(parts):
    """How many parts, from the greatest one on, fall by 1 each."""
    run = 1
    while run < len(parts) and parts[run] == parts[run - 1] - 1:
        run += 1
    return run


def is_kept(parts):
    """Whether unlike parts are kept."""
    return exchanged(parts) is None


def kept_parts(total):
    """The kept ones with this total, None if there are none."""
    check_total(total)
    j = 0
    while j * (3 * j - 1) // 2 <= total:
        if j * (3 * j - 1) // 2 == total:
            return tuple(range(2 * j - 1, j - 1, -1))
        if j * (3 * j + 1) // 2 == total:
            return tuple(range(2 * j, j, -1))
        j += 1
    return None


def sign_count(total):
    """How many unlike parts of the total have an even number of parts, less how many an odd one."""
    check_total(total)
    return signs_to(total)[total]


def sign_row(many):
    """The list of the sign counts of 0, 1, .., so many."""
    check_many(many, 3000)
    return signs_to(many)[:many]


def signs_to(total):
    """The sign counts of 0 to the total: the exchange leaves the kept ones alone."""
    row = [0] * (total + 1)
    j = 0
    sign = 1
    while j * (3 * j - 1) // 2 <= total:
        for place in (j * (3 * j - 1) // 2, j * (3 * j + 1) // 2):
            if place <= total:
                row[place] = sign
        j += 1
        sign = -sign
    return row
