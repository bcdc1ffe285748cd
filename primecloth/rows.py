"""Rows over a prime: their sum, difference and product, and what they are worth at a spot."""

from primecloth.errors import BadRow
from primecloth.remainders import check_prime, check_remainder, is_remainder


def check_row(prime, row):
    for number in row:
        if not is_remainder(prime, number):
            raise BadRow("a row holds remainders of the prime alone")
    if len(row) > 0 and row[-1] == 0:
        raise BadRow("a row does not end with nought")


def check_rows(prime, one, two):
    check_prime(prime)
    check_row(prime, one)
    check_row(prime, two)


def trimmed(numbers):
    length = len(numbers)
    while length > 0 and numbers[length - 1] == 0:
        length -= 1
    return numbers[:length]


def number_at(row, power):
    # A row is nought at every power beyond its end.
    if power < len(row):
        return row[power]
    return 0


def nought_at(prime, spot):
    return [(-spot) % prime, 1]


def sum_of(prime, one, two):
    length = max(len(one), len(two))
    return trimmed([(number_at(one, power) + number_at(two, power)) % prime for power in range(length)])


def difference_of(prime, one, two):
    length = max(len(one), len(two))
    return trimmed([(number_at(one, power) - number_at(two, power)) % prime for power in range(length)])


def multiple_of(prime, row, factor):
    return trimmed([(number * factor) % prime for number in row])


def product_of(prime, one, two):
    sums = [0] * (len(one) + len(two))
    for first, number in enumerate(one):
        for second, other in enumerate(two):
            sums[first + second] = (sums[first + second] + number * other) % prime
    return trimmed(sums)


def worth_of(prime, numbers, spot):
    total = 0
    # From the last number on, each step raises the powers of all numbers behind it by one.
    for number in reversed(numbers):
        total = (total * spot + number) % prime
    return total


def added(prime, one, two):
    check_rows(prime, one, two)
    return sum_of(prime, one, two)


def lessened(prime, one, two):
    check_rows(prime, one, two)
    return difference_of(prime, one, two)


def multiplied(prime, one, two):
    check_rows(prime, one, two)
    return product_of(prime, one, two)


def worth(prime, row, spot):
    check_prime(prime)
    check_row(prime, row)
    check_remainder(prime, spot)
    return worth_of(prime, row, spot)
