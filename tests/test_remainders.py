import unittest

from primecloth.errors import BadSpot, ClothError, NoDivisor, NotPrime
from primecloth.remainders import inverse, is_prime
from tests.samples import HUGE, LARGE_PRIMES, NO_PRIMES, SMALL_PRIMES, no_remainders


def sieve(end):
    """A list that tells of each number below the end whether it is a prime."""
    marks = [False, False] + [True] * (end - 2)
    for number in range(2, end):
        if marks[number]:
            for multiple in range(2 * number, end, number):
                marks[multiple] = False
    return marks


class IsPrimeTest(unittest.TestCase):
    @classmethod
    def setUpClass(cls):
        cls.marks = sieve(1000001)

    def test_numbers_below_two(self):
        for number in (1, 0, -1, -2, -3, -4, -5, -7, -997, -999983, -1000003, -HUGE):
            self.assertIs(is_prime(number), False, number)

    def test_two_and_small_primes(self):
        for number in (2, 3, 5, 7, 11, 13, 17, 19, 23, 29, 31, 37, 41, 43, 47):
            self.assertIs(is_prime(number), True, number)

    def test_every_number_up_to_twenty_thousand(self):
        for number in range(20000):
            self.assertIs(is_prime(number), self.marks[number], number)

    def test_the_last_numbers_up_to_a_million(self):
        for number in range(995000, 1000001):
            self.assertIs(is_prime(number), self.marks[number], number)
        for number in (999953, 999959, 999961, 999979, 999983):
            self.assertIs(is_prime(number), True, number)

    def test_squares_of_primes(self):
        for number in range(2, 1000):
            if self.marks[number]:
                self.assertIs(is_prime(number * number), False, number)
        self.assertIs(is_prime(994009), False)

    def test_products_of_two_primes(self):
        primes = [number for number in range(2, 1000) if self.marks[number]]
        for one, two in zip(primes, primes[1:]):
            self.assertIs(is_prime(one * two), False, (one, two))
        for number in (6, 10, 15, 21, 35, 77, 2 * 499979, 3 * 333323, 991 * 997):
            self.assertIs(is_prime(number), False, number)

    def test_a_million_and_above(self):
        for number in (1000000, 1000001, 1000003, 1000033, 1000037, 1009 * 1009, 2 ** 31 - 1, 2 ** 61 - 1):
            self.assertIs(is_prime(number), False, number)

    def test_a_hundred_figures(self):
        # 2 ** 521 - 1 is a prime of more than a hundred figures: it too counts as none, and at once.
        for number in (10 ** 99, 10 ** 99 + 289, 10 ** 100 - 1, 2 ** 521 - 1, -(10 ** 99)):
            self.assertIs(is_prime(number), False, number)


class InverseTest(unittest.TestCase):
    def check(self, prime, number):
        found = inverse(prime, number)
        self.assertIs(type(found), int)
        self.assertTrue(0 < found < prime, (prime, number, found))
        self.assertEqual(number * found % prime, 1, (prime, number, found))

    def test_every_remainder_of_small_primes(self):
        for prime in SMALL_PRIMES:
            for number in range(1, prime):
                self.check(prime, number)

    def test_some_remainders_of_large_primes(self):
        for prime in LARGE_PRIMES:
            numbers = list(range(1, 200)) + list(range(200, prime, 9973)) + list(range(prime - 200, prime))
            for number in numbers + [prime // 2, prime // 2 + 1]:
                self.check(prime, number)

    def test_known_inverses(self):
        self.assertEqual(inverse(2, 1), 1)
        self.assertEqual(inverse(7, 3), 5)
        self.assertEqual(inverse(7, 6), 6)
        self.assertEqual(inverse(999983, 2), 499992)
        self.assertEqual(inverse(999983, 999982), 999982)

    def test_nought_has_none(self):
        for prime in SMALL_PRIMES + LARGE_PRIMES:
            with self.subTest(prime=prime), self.assertRaises(NoDivisor):
                inverse(prime, 0)

    def test_no_remainders(self):
        for prime in SMALL_PRIMES + LARGE_PRIMES:
            for number in no_remainders(prime) + (2 * prime,):
                with self.subTest(prime=prime, number=number), self.assertRaises(BadSpot):
                    inverse(prime, number)

    def test_no_primes_go_ahead_of_every_other_refusal(self):
        for prime in NO_PRIMES:
            for number in (1, 0, -1, prime, prime + 1, HUGE, -HUGE):
                with self.subTest(prime=prime, number=number), self.assertRaises(NotPrime):
                    inverse(prime, number)

    def test_each_refusal_is_a_cloth_error(self):
        for arguments in ((4, 1), (7, 7), (7, 0)):
            with self.subTest(arguments=arguments), self.assertRaises(ClothError):
                inverse(*arguments)
            with self.subTest(arguments=arguments), self.assertRaises(ValueError):
                inverse(*arguments)


class ArgumentsTest(unittest.TestCase):
    def test_the_arguments_bear_their_names(self):
        self.assertIs(is_prime(number=7), True)
        self.assertEqual(inverse(prime=7, number=3), 5)


if __name__ == "__main__":
    unittest.main()
