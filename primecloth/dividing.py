"""Division of rows: the quotient and the rest, and the greatest common divisor with its factors."""

from primecloth.errors import NoDivisor
from primecloth.remainders import inverse_of
from primecloth.rows import check_rows, difference_of, multiple_of, product_of, trimmed


def parts_of(prime, one, two):
    factor = inverse_of(prime, two[-1])
    end = len(two) - 1
    rest = list(one)
    quotient = [0] * (len(one) - end)
    # From the highest power down, each turn takes away the multiple of the second row that makes the
    # last number left of the first one nought.
    for power in range(len(one) - len(two), -1, -1):
        number = (rest[power + end] * factor) % prime
        quotient[power] = number
        for place, other in enumerate(two):
            rest[power + place] = (rest[power + place] - number * other) % prime
    return (quotient, trimmed(rest))


def split(prime, one, two):
    check_rows(prime, one, two)
    if len(two) == 0:
        raise NoDivisor("no row is split by the empty one")
    return parts_of(prime, one, two)


def divides(prime, one, two):
    check_rows(prime, one, two)
    if len(one) == 0:
        return len(two) == 0
    return len(parts_of(prime, two, one)[1]) == 0


def common_of(prime, one, two):
    # In each of these lists, the second row times one and the third row times two sum up to the first row.
    higher = [one, [1], []]
    lower = [two, [], [1]]
    # What divides the two first rows also divides the rest, and the other way round: the common divisors
    # stay the same at every turn, while the first rows grow shorter.
    while len(lower[0]) > 0:
        quotient = parts_of(prime, higher[0], lower[0])[0]
        taken = [product_of(prime, quotient, row) for row in lower]
        rest = [difference_of(prime, row, other) for row, other in zip(higher, taken)]
        higher = lower
        lower = rest
    factor = 1
    if len(higher[0]) > 0:
        factor = inverse_of(prime, higher[0][-1])
    return tuple([multiple_of(prime, row, factor) for row in higher])


def common(prime, one, two):
    check_rows(prime, one, two)
    return common_of(prime, one, two)
