"""Tree values, of which claims are made: integers, words of small letters, and tuples of these."""

from etaparts.checks import is_integer


def is_tree(value):
    """Whether any value is a tree value."""
    return is_tree_within(value, 12)


def is_tree_within(value, depth):
    """Whether it is a tree value that is nested at most so deep."""
    if depth == 0:
        return False
    if isinstance(value, tuple):
        return len(value) <= 2000 and all([is_tree_within(part, depth - 1) for part in value])
    return is_word(value) if isinstance(value, str) else is_thirty_digits(value)


def is_word(value):
    """Whether a string is one of 1 to 12 small letters."""
    return 1 <= len(value) <= 12 and all(["a" <= sign <= "z" for sign in value])


def is_thirty_digits(value):
    return is_integer(value) and abs(value) < 10 ** 30
