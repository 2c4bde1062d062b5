"""The numbers of an endless product that is told by a power at each place."""


def row_by_powers(powers, many):
    """The first many coefficients of the product of (1 - q^n) to powers[n], over all n from 1 on.

    The powers are a list with a place for each n below many; its place 0 is not read.
    """
    if many == 0:
        return []
    # n a(n) is the sum over k from 1 to n of c(k) a(n - k): no endless product is needed.
    sums = sums_of(powers, many)
    row = [1]
    for place in range(1, many):
        total = sum([one * number for one, number in zip(sums, row[::-1])])
        row.append(total // place)
    return row


def sums_of(powers, many):
    """The list of c(1), c(2), .. below many: minus the sum of d times the power at d, over the divisors d."""
    sums = [0] * many
    for divisor in range(1, many):
        if powers[divisor] != 0:
            for place in range(divisor, many, divisor):
                sums[place] -= divisor * powers[divisor]
    return sums[1:]
