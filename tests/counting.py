"""Plain ways to reckon what the package tells: by listing, without any of its files."""


def all_kinds(modulus):
    """All kinds with this modulus."""
    rows = [(0, 0)] + [(colours, most) for colours in range(1, 7) for most in range(7)]
    found = [()]
    for _ in range(modulus):
        found = [ahead + (row,) for ahead in found for row in rows]
    return [("kind", modulus, rows) for rows in found]


def many_kinds(many):
    """So many kinds of each modulus, told by a fixed rule; some rests do not come."""
    found, state = [], 12345
    for modulus in range(1, 13):
        for _ in range(many):
            rows = []
            for _ in range(modulus):
                state = (state * 1103515245 + 12345) % 2 ** 31
                colours = (state >> 16) % 9 % 7
                state = (state * 1103515245 + 12345) % 2 ** 31
                rows.append((colours, (state >> 16) % 7) if colours else (0, 0))
            found.append(("kind", modulus, tuple(rows)))
    return found


def plain_partitions(number, greatest=None):
    """All falling tuples of integers from 1 on with this sum."""
    if number == 0:
        return [()]
    found = []
    for part in range(1, min(number, number if greatest is None else greatest) + 1):
        found += [(part,) + rest for rest in plain_partitions(number - part, part)]
    return found


def coloured_partitions(kind, number):
    """All partitions of the kind, each one put together part by part and then looked through."""
    modulus, rows = kind[1:]
    found = []
    for sizes in plain_partitions(number):
        choices = [()]
        for size in sizes:
            choices = [ahead + ((size, colour),) for ahead in choices for colour in range(rows[size % modulus][0])
                       if not ahead or ahead[-1] >= (size, colour)]
        for choice in choices:
            if all(rows[size % modulus][1] == 0 or choice.count((size, colour)) <= rows[size % modulus][1]
                   for size, colour in choice):
                found.append(choice)
    return sorted(found)
