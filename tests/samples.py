"""Inputs, plain reckonings and a test case that several tests draw on."""

import unittest
from copy import deepcopy
from itertools import product

from primecloth.errors import ClothError

HUGE = 10 ** 99 + 7

NO_PRIMES = (-HUGE, -7, -2, -1, 0, 1, 4, 6, 9, 15, 994009, 999999, 1000000, 1000003, HUGE)

SMALL_PRIMES = (2, 3, 5, 7, 11, 13, 97)

LARGE_PRIMES = (65537, 999961, 999979, 999983)


def no_remainders(prime):
    return (-HUGE, -prime, -1, prime, prime + 1, HUGE)


def bad_rows(prime):
    """Lists that are no rows, by a wrong number at every place or by noughts at the end."""
    rows = [[0], [0, 0], [1, 0], [1, 0, 0], [0, 1, 0], [1] * 99 + [0]]
    for number in no_remainders(prime):
        rows += [[number], [number, 1], [1, number], [1, number, 1], [number, 0], [1] * 99 + [number]]
    rows.append([HUGE] * 100)
    return rows


def all_rows(prime, longest):
    """Every row over the prime with at most `longest` numbers."""
    rows = []
    for length in range(longest + 1):
        for numbers in product(range(prime), repeat=length):
            if not numbers or numbers[-1] != 0:
                rows.append(list(numbers))
    return rows


def long_row(prime, length, step):
    """A row of many different numbers, the last one not nought."""
    row = [(step * step * place + step + place ** 3) % prime for place in range(length - 1)]
    return row + [prime - 1]


# Wide enough that no sum of products of remainders runs over into the next place.
PLACE = 10 ** 20


def packed(row):
    """The row's worth, without remainders, at a spot so large that its numbers stay apart."""
    return sum(number * PLACE ** power for power, number in enumerate(row))


def unpacked(prime, number):
    numbers = []
    while number > 0:
        numbers.append(number % PLACE % prime)
        number //= PLACE
    while numbers and numbers[-1] == 0:
        numbers.pop()
    return numbers


def negated(prime, row):
    return [prime - number for number in row]


def plain_sum(prime, one, two):
    return unpacked(prime, packed(one) + packed(two))


def plain_difference(prime, one, two):
    return unpacked(prime, packed(one) + packed(negated(prime, two)))


def plain_product(prime, one, two):
    return unpacked(prime, packed(one) * packed(two))


def plain_worth(prime, row, spot):
    return sum(number * spot ** power for power, number in enumerate(row)) % prime


def is_row(prime, row):
    if type(row) is not list or not all(type(number) is int and 0 <= number < prime for number in row):
        return False
    return not row or row[-1] != 0


def row_with_roots(prime, last, spots):
    """The row with this last number that has these roots, and a spot twice where it stands twice."""
    row = [last]
    for spot in spots:
        row = [(same * (prime - spot) + lower) % prime for same, lower in zip(row + [0], [0] + row)]
    return row


class CallTest(unittest.TestCase):
    def told(self, function, *arguments):
        """What the function answers; it changes nothing that is handed in, and answers no list of it."""
        given = deepcopy(arguments)
        answer = function(*given)
        self.assertEqual(given, arguments)
        lists = [part for part in given if type(part) is list]
        for part in [answer] + (list(answer) if type(answer) is tuple else []):
            self.assertFalse(any(part is other for other in lists), (function.__name__, arguments))
        return answer

    def refused(self, refusal, function, *arguments):
        given = deepcopy(arguments)
        with self.subTest(function=function.__name__, arguments=arguments):
            with self.assertRaises(refusal) as caught:
                function(*given)
            self.assertIs(type(caught.exception), refusal)
            self.assertIsInstance(caught.exception, ClothError)
            self.assertIsInstance(caught.exception, ValueError)
            self.assertEqual(given, arguments)
