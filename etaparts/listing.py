"""Partitions of a kind: listed, and counted part by part."""

from etaparts.checks import check_many, check_number, is_integer, is_pair
from etaparts.errors import InvalidPartition
from etaparts.kinds import check_kind, colours_most
from etaparts.stocks import listed, wider_row


def stock_of(kind, number):
    """The rising list of the tuples (size, most, part) of the kind's parts to the number."""
    stock = []
    for size in range(1, number + 1):
        colours, most = colours_most(kind, size)
        stock += [(size, most, (size, colour)) for colour in range(colours)]
    return stock


def is_partition(kind, value):
    """Whether any value is a partition of the kind of a count to 300."""
    check_kind(kind)
    if not isinstance(value, tuple) or not all([is_part(kind, part) for part in value]):
        return False
    if sum([size for size, _ in value]) > 300:
        return False
    if any([ahead < behind for ahead, behind in zip(value, value[1:])]):
        return False
    return not is_too_often(kind, value)


def is_part(kind, value):
    if not is_pair(value) or not is_integer(value[0]) or not is_integer(value[1]):
        return False
    size, colour = value
    return size >= 1 and 0 <= colour < colours_most(kind, size)[0]


def is_too_often(kind, partition):
    """Whether some part of falling parts stands more often than its most."""
    for position, part in enumerate(partition):
        most = colours_most(kind, part[0])[1]
        # Like parts are side by side: one too many has a like one most places ahead of it.
        if 0 < most <= position and partition[position - most] == part:
            return True
    return False


def check_partition(kind, partition):
    if not is_partition(kind, partition):
        raise InvalidPartition(partition)


def partitions(kind, number):
    """The list of all partitions of the number, rising."""
    check_kind(kind)
    check_number(number, 0, 60)
    return listed(stock_of(kind, number), number)


def partition_count(kind, number):
    """How many partitions of the number there are."""
    check_kind(kind)
    check_number(number, 0, 300)
    return counted_to(kind, number)[number]


def count_row(kind, many):
    """How many partitions of 0, 1, 2, .. there are, so many places."""
    check_kind(kind)
    check_many(many, 300)
    return counted_to(kind, many)[:many]


def counted_to(kind, number):
    """How many partitions there are of each count to the number."""
    row = [1] + [0] * number
    for size, most, _ in stock_of(kind, number):
        row = wider_row(row, size, most)
    return row


def counts_by_many(kind, number):
    """The rising list of the tuples (how many parts, how many partitions of the number have so many)."""
    check_kind(kind)
    check_number(number, 0, 60)
    # table[n][k] tells how many partitions of n have k parts.
    table = [[0] * (number + 1) for _ in range(number + 1)]
    table[0][0] = 1
    for size, most, _ in stock_of(kind, number):
        put_into_table(table, size, most)
    return [(parts, count) for parts, count in enumerate(table[number]) if count > 0]


def put_into_table(table, size, most):
    """Changes the table to what it is if a part of this size can be taken, too."""
    for number in range(size, len(table)):
        for parts in range(1, number + 1):
            table[number][parts] += table[number - size][parts - 1]
    if most > 0:
        # Choices with the part more than most times are those with any of it, and most + 1 more.
        times = most + 1
        for number in range(len(table) - 1, size * times - 1, -1):
            for parts in range(times, number + 1):
                table[number][parts] -= table[number - size * times][parts - times]
