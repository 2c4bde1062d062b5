"""Conjugates and hooks of parts."""

from etaparts.errors import InvalidParts
from etaparts.glaisher import check_parts, has_few


def conjugate(parts):
    """At each place i, counted from 1, how many parts are at least i."""
    check_parts(parts)
    return turned_over(parts)


def turned_over(parts):
    greatest = parts[0] if len(parts) > 0 else 0
    return tuple([len([part for part in parts if part >= least]) for least in range(1, greatest + 1)])


def hooks(parts):
    """The hooks, falling."""
    check_parts(parts)
    found = []
    for place, (part, other) in enumerate(zip(parts, turned_over(parts)), start=1):
        if part >= place:
            found.append(part + other - 2 * place + 1)
    return tuple(found)


def is_own_conjugate(parts):
    """Whether they are their own conjugate."""
    check_parts(parts)
    return parts == turned_over(parts)


def of_hooks(parts):
    """The parts that are their own conjugate and have these unlike odd hooks."""
    check_parts(parts)
    if not has_few(2, parts) or any([part % 2 == 0 for part in parts]):
        raise InvalidParts(parts)
    # A hook of an own conjugate has as much behind its corner as below it; its corner is at (place, place).
    first = [(hook - 1) // 2 + place for place, hook in enumerate(parts, start=1)]
    # What is below the first parts is, turned over, what stands behind the square of their corners.
    return tuple(first) + turned_over(tuple([part - len(first) for part in first]))
