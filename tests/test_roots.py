import unittest

from primecloth.errors import AllRoots, BadRow, NotPrime
from primecloth.roots import roots
from tests.samples import (
    HUGE, LARGE_PRIMES, NO_PRIMES, CallTest, all_rows, bad_rows, is_row, long_row, plain_product, plain_worth,
    row_with_roots)


def has_root(prime, row, spot):
    """A quicker reckoning than the plain worth, for walking every spot of a large prime."""
    worth = 0
    for number in reversed(row):
        worth = (worth * spot + number) % prime
    return worth == 0


def without_roots(prime):
    """A row of three numbers and no roots: one that is worth a square less a number that is none."""
    if prime == 2:
        return [1, 1, 1]
    squares = {spot * spot % prime for spot in range(prime)}
    number = next(number for number in range(prime) if number not in squares)
    return [prime - number, 0, 1]


class RootsTest(CallTest):
    def check(self, prime, row):
        """That the answer holds together; what is left is not looked at for roots here."""
        answer = self.told(roots, prime, row)
        message = (prime, row, answer)
        self.assertIs(type(answer), tuple)
        found, left = answer
        self.assertIs(type(found), list)
        spots = []
        for pair in found:
            self.assertIs(type(pair), tuple)
            self.assertGreater(pair[1], 0, message)
            self.assertTrue(0 <= pair[0] < prime, message)
            spots += [pair[0]] * pair[1]
        self.assertEqual([pair[0] for pair in found], sorted(set(spots)), message)
        self.assertTrue(is_row(prime, left), message)
        self.assertEqual(plain_product(prime, left, row_with_roots(prime, 1, spots)), row, message)
        return answer

    def check_by_all_spots(self, prime, row):
        answer = self.check(prime, row)
        self.assertFalse(any(has_root(prime, answer[1], spot) for spot in range(prime)), (prime, row, answer))

    def check_known(self, prime, pairs, left):
        row = left
        for spot, times in pairs:
            row = plain_product(prime, row, row_with_roots(prime, 1, [spot] * times))
        self.assertEqual(self.check(prime, row), (pairs, left), (prime, row))

    def test_ordinary_rows(self):
        self.assertEqual(roots(7, [6, 0, 1]), ([(1, 1), (6, 1)], [1]))
        self.assertEqual(roots(7, [1, 2, 1]), ([(6, 2)], [1]))
        self.assertEqual(roots(7, [0, 0, 3]), ([(0, 2)], [3]))
        self.assertEqual(roots(7, [1, 0, 1]), ([], [1, 0, 1]))
        self.assertEqual(roots(7, [0, 2, 0, 2]), ([(0, 1)], [2, 0, 2]))

    def test_rows_of_one_number(self):
        for prime in (2, 7, 999983):
            for number in (1, prime - 1):
                self.assertEqual(self.check(prime, [number]), ([], [number]))

    def test_rows_of_two_numbers(self):
        self.assertEqual(roots(2, [0, 1]), ([(0, 1)], [1]))
        self.assertEqual(roots(2, [1, 1]), ([(1, 1)], [1]))
        self.assertEqual(roots(999983, [0, 1]), ([(0, 1)], [1]))
        self.assertEqual(roots(999983, [999982, 1]), ([(1, 1)], [1]))
        self.assertEqual(roots(999983, [1, 1]), ([(999982, 1)], [1]))
        self.assertEqual(roots(999983, [999982, 2]), ([(499992, 1)], [2]))

    def test_the_prime_two(self):
        self.assertEqual(roots(2, [0, 1, 1]), ([(0, 1), (1, 1)], [1]))
        self.assertEqual(roots(2, [1, 0, 1]), ([(1, 2)], [1]))
        self.assertEqual(roots(2, [1, 1, 1]), ([], [1, 1, 1]))
        self.assertEqual(roots(2, [0, 0, 1, 1, 1]), ([(0, 2)], [1, 1, 1]))
        self.assertEqual(roots(2, [1] + [0] * 63 + [1]), ([(1, 64)], [1]))

    def test_all_short_rows_of_small_primes(self):
        for prime, longest in ((2, 8), (3, 5), (5, 4), (7, 3), (11, 3), (13, 2)):
            for row in all_rows(prime, longest):
                if row:
                    self.check_by_all_spots(prime, row)

    def test_many_rows_of_other_primes(self):
        for prime in (17, 97, 101, 257, 997):
            for length in (2, 3, 4, 5, 6, 9, 30, 100, 120):
                for step in range(1, 9):
                    self.check_by_all_spots(prime, long_row(prime, length, step))

    def test_every_spot_is_a_root(self):
        for prime in (2, 3, 5, 13, 97, 101):
            pairs = [(spot, 1) for spot in range(prime)]
            self.assertEqual(self.check(prime, [0, prime - 1] + [0] * (prime - 2) + [1]), (pairs, [1]))
        for prime in (2, 3, 5, 7):
            self.check_known(prime, [(spot, spot + 1) for spot in range(prime)], [prime - 1])

    def test_one_root_many_times(self):
        for prime in (2, 3, 97) + LARGE_PRIMES:
            for spot in (0, 1, prime - 1):
                for times in (2, 3, 98, 99, 119):
                    self.check_known(prime, [(spot, times)], [prime - 1])

    def test_pairs_of_roots(self):
        for prime in (3, 5, 7, 11, 13, 17):
            for first in range(prime):
                for second in range(first + 1, prime):
                    self.check_known(prime, [(first, 1), (second, 3)], [1])

    def test_roots_and_a_row_left(self):
        for prime in (2, 3, 5, 7, 97) + LARGE_PRIMES:
            left = plain_product(prime, without_roots(prime), without_roots(prime))
            self.check_known(prime, [], left)
            self.check_known(prime, [(0, 1)], left)
            self.check_known(prime, [(0, 2), (1, 5)], plain_product(prime, left, [prime - 1]))
            if prime > 2:
                self.check_known(prime, [(0, 1), (1, 30), (prime - 1, 2)], left)

    def test_many_roots_of_large_primes(self):
        for prime in (65537, 999983):
            left = without_roots(prime)
            for start, step in ((0, 1), (prime - 99, 1), (5, 600), (1, 661)):
                spots = [start + step * place for place in range(99)]
                self.check_known(prime, [(spot, 1) for spot in spots], [5])
                self.check_known(prime, [(spot, 1) for spot in spots[:97]], left)
                self.check_known(prime, [(spot, 1 + spot % 3) for spot in spots[:40]], [prime - 1])

    def test_every_spot_of_a_large_prime_tried(self):
        for row in ([5, 1, 0, 1], long_row(999983, 6, 21)):
            self.check_by_all_spots(999983, row)
        row = long_row(65537, 100, 17)
        spots = [spot for spot in range(65537) if has_root(65537, row, spot)]
        self.assertEqual([pair[0] for pair in self.check(65537, row)[0]], spots)

    def test_known_rows_without_roots_are_without_roots(self):
        for prime in (2, 3, 5, 7, 97, 997):
            row = without_roots(prime)
            self.assertNotIn(0, [plain_worth(prime, row, spot) for spot in range(prime)])


class RefusalsTest(CallTest):
    def test_the_empty_row(self):
        for prime in (2, 7, 999983):
            self.refused(AllRoots, roots, prime, [])

    def test_bad_rows(self):
        for prime in (2, 7, 999983):
            for row in bad_rows(prime):
                self.refused(BadRow, roots, prime, row)

    def test_no_primes_go_ahead_of_every_other_refusal(self):
        for prime in NO_PRIMES:
            for row in ([], [1], [0], [1, 0], [-1], [prime], [HUGE] * 100):
                self.refused(NotPrime, roots, prime, row)


class ArgumentsTest(unittest.TestCase):
    def test_the_arguments_bear_their_names(self):
        self.assertEqual(roots(prime=7, row=[1, 2, 1]), ([(6, 2)], [1]))


if __name__ == "__main__":
    unittest.main()
