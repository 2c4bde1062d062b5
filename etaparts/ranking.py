"""Positions of partitions in the lists of their numbers, without listing."""

from etaparts.checks import check_number, is_within
from etaparts.errors import InvalidPosition
from etaparts.kinds import check_kind
from etaparts.listing import check_partition, stock_of
from etaparts.stocks import table_of


def partition_at(kind, number, position):
    """The partition of the number at this position."""
    check_kind(kind)
    check_number(number, 0, 300)
    stock, table = stock_and_table(kind, number)
    if not is_within(position, 0, table[-1][number] - 1):
        raise InvalidPosition(position)
    return found_at(stock, table, number, position)


def stock_and_table(kind, number):
    stock = stock_of(kind, number)
    return stock, table_of(stock, number)


def found_at(stock, table, number, position):
    """The choice at this position of the rising list of those that add up to the number."""
    found = []
    at = len(stock) - 1
    while number > 0:
        # The choices that have only lesser parts than the one at this place of the stock come first.
        while table[at][number] > position:
            at -= 1
        position -= table[at][number]
        found.append(stock[at][2])
        number -= stock[at][0]
    return tuple(found)


def position_of(kind, partition):
    """The position of the partition in the list of its number."""
    check_kind(kind)
    check_partition(kind, partition)
    stock, table = stock_and_table(kind, total_of(partition))
    return position_in(stock, table, partition)


def total_of(partition):
    return sum([size for size, _ in partition])


def position_in(stock, table, partition):
    """For each part those of what is left that have only lesser parts, added up."""
    places = {stock[place][2]: place for place in range(len(stock))}
    left = total_of(partition)
    position = 0
    for part in partition:
        position += table[places[part]][left]
        left -= part[0]
    return position


def least_partition(kind, number):
    """The first partition of the number, None if there is none."""
    check_kind(kind)
    check_number(number, 0, 300)
    stock, table = stock_and_table(kind, number)
    return found_at(stock, table, number, 0) if table[-1][number] > 0 else None


def greatest_partition(kind, number):
    """The last partition of the number, None if there is none."""
    check_kind(kind)
    check_number(number, 0, 300)
    stock, table = stock_and_table(kind, number)
    many = table[-1][number]
    return found_at(stock, table, number, many - 1) if many > 0 else None


def next_partition(kind, partition):
    """The partition behind it in its list, None of the last one."""
    check_kind(kind)
    check_partition(kind, partition)
    number = total_of(partition)
    stock, table = stock_and_table(kind, number)
    position = position_in(stock, table, partition) + 1
    return found_at(stock, table, number, position) if position < table[-1][number] else None
