"""Parts without colours, and Glaisher's map between those free of a fold and those few by it."""

from etaparts.checks import is_within
from etaparts.errors import InvalidFold, InvalidParts, InvalidTotal
from etaparts.stocks import listed


def is_parts(value):
    """Whether any value is parts."""
    if not isinstance(value, tuple) or not all([is_within(part, 1, 400) for part in value]):
        return False
    return sum(value) <= 400 and all([ahead >= behind for ahead, behind in zip(value, value[1:])])


def check_parts(parts):
    if not is_parts(parts):
        raise InvalidParts(parts)


def check_fold(fold):
    if not is_within(fold, 2, 12):
        raise InvalidFold(fold)


def check_total(total):
    if not is_within(total, 0, 400):
        raise InvalidTotal(total)


def has_free(fold, parts):
    """Whether none of the parts is a multiple of the fold."""
    return all([part % fold > 0 for part in parts])


def has_few(fold, parts):
    """Whether no part stands so often as the fold tells."""
    return all([often < fold for _, often in often_of(parts)])


def often_of(parts):
    """The list of the tuples (part, how often it stands), in the sequence of the parts."""
    often = {}
    for part in parts:
        often[part] = often.get(part, 0) + 1
    return list(often.items())


def is_free(fold, parts):
    """Whether they are free of the fold."""
    check_fold(fold)
    check_parts(parts)
    return has_free(fold, parts)


def is_few(fold, parts):
    """Whether they are few by the fold."""
    check_fold(fold)
    check_parts(parts)
    return has_few(fold, parts)


def falling(parts):
    return tuple(sorted(parts, reverse=True))


def gathered(fold, parts):
    """Parts free of the fold, gathered: few by it, of the same total."""
    check_fold(fold)
    check_parts(parts)
    if not has_free(fold, parts):
        raise InvalidParts(parts)
    made = []
    for part, often in often_of(parts):
        while often > 0:
            made += [part] * (often % fold)
            often //= fold
            part *= fold
    return falling(made)


def spread(fold, parts):
    """Parts few by the fold, spread: free of it, of the same total."""
    check_fold(fold)
    check_parts(parts)
    if not has_few(fold, parts):
        raise InvalidParts(parts)
    made = []
    for part in parts:
        often = 1
        while part % fold == 0:
            part //= fold
            often *= fold
        made += [part] * often
    return falling(made)


def free_parts(fold, total):
    """The rising list of all parts free of the fold with this total."""
    check_fold(fold)
    check_total(total)
    return listed([(part, 0, part) for part in range(1, total + 1) if part % fold > 0], total)


def few_parts(fold, total):
    """The rising list of all parts few by the fold with this total."""
    check_fold(fold)
    check_total(total)
    return listed([(part, fold - 1, part) for part in range(1, total + 1)], total)
