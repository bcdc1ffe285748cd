"""Inputs that several tests draw on."""

from itertools import product

HUGE = 10 ** 99 + 7

NO_PRIMES = (-HUGE, -7, -2, -1, 0, 1, 4, 6, 9, 15, 994009, 999999, 1000000, 1000003, HUGE)

SMALL_PRIMES = (2, 3, 5, 7, 11, 13, 97)

LARGE_PRIMES = (65537, 999961, 999979, 999983)


def no_remainders(prime):
    return (-HUGE, -prime, -1, prime, prime + 1, HUGE)


def bad_rows(prime):
    """Lists that are no rows, by a wrong number at every place or by noughts at the end."""
    rows = [[0], [0, 0], [1, 0], [1, 0, 0], [0, 1, 0], [1] * 99 + [0]]
    for number in no_remainders(prime):
        rows += [[number], [number, 1], [1, number], [1, number, 1], [number, 0], [1] * 99 + [number]]
    rows.append([HUGE] * 100)
    return rows


def all_rows(prime, longest):
    """Every row over the prime with at most `longest` numbers."""
    rows = []
    for length in range(longest + 1):
        for numbers in product(range(prime), repeat=length):
            if not numbers or numbers[-1] != 0:
                rows.append(list(numbers))
    return rows


def long_row(prime, length, step):
    """A row of many different numbers, the last one not nought."""
    row = [(step * step * place + step + place ** 3) % prime for place in range(length - 1)]
    return row + [prime - 1]
