"""Choices of parts out of a stock.

A stock is a list of tuples (size, most, part), rising by size and part; a choice takes each part at
most so often as most tells, or, if most is 0, as often as wished. Sizes of a choice are added up.
"""

from etaparts.errors import TooMany


def wider_row(row, size, most):
    """How many choices there are of 0, 1, .. if a part of this size can be taken, too."""
    wider = list(row)
    for number in range(size, len(row)):
        wider[number] += wider[number - size]
        # The part one time too often, with what the lesser parts make of the rest.
        if most > 0 and number >= size * (most + 1):
            wider[number] -= row[number - size * (most + 1)]
    return wider


def table_of(stock, number):
    """The list of the rows to the number: the one at k has the choices from the first k parts alone."""
    table = [[1] + [0] * number]
    for size, most, _ in stock:
        table.append(wider_row(table[-1], size, most))
    return table


def listed(stock, number):
    """The rising list of all choices that add up to the number, falling tuples of parts."""
    table = table_of(stock, number)
    if table[-1][number] > 2000:
        raise TooMany("partitions", 2000)
    return listed_below(stock, table, number, len(stock))


def listed_below(stock, table, number, many):
    """The choices from the first many parts alone.

    Rising: by the greatest part, then by how often it stands, as a lesser part behind it comes first.
    """
    if number == 0:
        return [()]
    found = []
    for position in range(many):
        size, most, part = stock[position]
        often = number // size if most == 0 else min(number // size, most)
        for times in range(1, often + 1):
            left = number - size * times
            # Without a look at the table there may be far more dead ends than choices.
            if table[position][left] > 0:
                ahead = (part,) * times
                found += [ahead + choice for choice in listed_below(stock, table, left, position)]
    return found
