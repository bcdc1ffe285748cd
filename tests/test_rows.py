import unittest

from primecloth.errors import BadRow, BadSpot, NotPrime
from primecloth.rows import added, lessened, multiplied, worth
from tests.samples import (
    HUGE, LARGE_PRIMES, NO_PRIMES, CallTest, all_rows, bad_rows, long_row, no_remainders, plain_difference,
    plain_product, plain_sum, plain_worth)

OPERATIONS = ((added, plain_sum), (lessened, plain_difference), (multiplied, plain_product))


class OperationsTest(CallTest):
    def check(self, prime, one, two):
        for operation, plain in OPERATIONS:
            found = self.told(operation, prime, one, two)
            self.assertIs(type(found), list)
            self.assertEqual(found, plain(prime, one, two), (operation.__name__, prime, one, two))

    def check_all_pairs(self, prime, rows):
        for one in rows:
            for two in rows:
                self.check(prime, one, two)

    def test_all_short_rows_of_small_primes(self):
        self.check_all_pairs(2, all_rows(2, 5))
        self.check_all_pairs(3, all_rows(3, 3))
        self.check_all_pairs(5, all_rows(5, 2))
        self.check_all_pairs(7, all_rows(7, 2))

    def test_rows_of_large_primes(self):
        for prime in LARGE_PRIMES:
            rows = [[], [1], [prime - 1], [0, 1], [0, 0, prime - 1], [prime - 1, 1], [1, prime - 1]]
            rows += [long_row(prime, length, step) for length, step in ((3, 5), (8, 1001), (20, 77777))]
            self.check_all_pairs(prime, rows)

    def test_lists_of_a_hundred_parts_and_somewhat_more(self):
        for prime in (2, 7, 999983):
            rows = [long_row(prime, 100, 3), long_row(prime, 100, 555), [prime - 1] * 100]
            rows += [[], [1], long_row(prime, 120, 9)]
            self.check_all_pairs(prime, rows)

    def test_one_list_handed_in_twice(self):
        for prime in (2, 7, 999983):
            row = long_row(prime, 9, 4)
            before = list(row)
            for operation, plain in OPERATIONS:
                self.assertEqual(operation(prime, row, row), plain(prime, before, before))
                self.assertEqual(row, before)


class SumTest(unittest.TestCase):
    def test_ordinary_rows(self):
        self.assertEqual(added(7, [2, 0, 3], [6, 5, 1]), [1, 5, 4])
        self.assertEqual(added(7, [1], [2, 3, 4]), [3, 3, 4])
        self.assertEqual(added(7, [2, 3, 4], [1]), [3, 3, 4])

    def test_empty_rows(self):
        self.assertEqual(added(7, [], []), [])
        self.assertEqual(added(7, [], [1, 2]), [1, 2])
        self.assertEqual(added(7, [1, 2], []), [1, 2])

    def test_noughts_at_the_end_are_left_away(self):
        self.assertEqual(added(7, [1, 2, 3], [1, 2, 4]), [2, 4])
        self.assertEqual(added(7, [1, 2, 3], [1, 5, 4]), [2])
        self.assertEqual(added(7, [1, 2, 3], [6, 5, 4]), [])
        self.assertEqual(added(7, [0, 2, 3], [0, 1, 4]), [0, 3])

    def test_noughts_elsewhere_are_kept(self):
        self.assertEqual(added(7, [1, 2, 3], [6, 5, 3]), [0, 0, 6])

    def test_the_prime_two(self):
        self.assertEqual(added(2, [1, 0, 1], [1, 1, 1]), [0, 1])
        self.assertEqual(added(2, [1, 1], [1, 1]), [])

    def test_a_large_prime(self):
        self.assertEqual(added(999983, [999982, 1], [2, 999982, 5]), [1, 0, 5])


class DifferenceTest(unittest.TestCase):
    def test_ordinary_rows(self):
        self.assertEqual(lessened(7, [2, 0, 3], [6, 5, 1]), [3, 2, 2])
        self.assertEqual(lessened(7, [1], [2, 3, 4]), [6, 4, 3])
        self.assertEqual(lessened(7, [2, 3, 4], [1]), [1, 3, 4])

    def test_empty_rows(self):
        self.assertEqual(lessened(7, [], []), [])
        self.assertEqual(lessened(7, [], [1, 2]), [6, 5])
        self.assertEqual(lessened(7, [1, 2], []), [1, 2])

    def test_a_row_less_itself_is_empty(self):
        for prime in (2, 7, 999983):
            for row in ([1], [0, 1], [1, 0, 1], long_row(prime, 100, 8)):
                self.assertEqual(lessened(prime, row, list(row)), [])
                self.assertEqual(lessened(prime, row, row), [])

    def test_noughts_at_the_end_are_left_away(self):
        self.assertEqual(lessened(7, [1, 2, 3], [0, 2, 3]), [1])
        self.assertEqual(lessened(7, [1, 2, 3], [0, 1, 3]), [1, 1])

    def test_the_prime_two(self):
        self.assertEqual(lessened(2, [1], [0, 1]), [1, 1])

    def test_a_large_prime(self):
        self.assertEqual(lessened(999983, [0, 1], [1, 2, 3]), [999982, 999982, 999980])


class ProductTest(unittest.TestCase):
    def test_ordinary_rows(self):
        self.assertEqual(multiplied(7, [1, 1], [1, 1]), [1, 2, 1])
        self.assertEqual(multiplied(7, [2, 0, 3], [4, 5]), [1, 3, 5, 1])
        self.assertEqual(multiplied(7, [6, 1], [1, 1]), [6, 0, 1])

    def test_empty_rows(self):
        self.assertEqual(multiplied(7, [], []), [])
        self.assertEqual(multiplied(7, [], [1, 2]), [])
        self.assertEqual(multiplied(7, [1, 2], []), [])

    def test_rows_of_one_number(self):
        self.assertEqual(multiplied(7, [3], [5]), [1])
        self.assertEqual(multiplied(7, [1], [4, 0, 5]), [4, 0, 5])
        self.assertEqual(multiplied(7, [4, 0, 5], [2]), [1, 0, 3])

    def test_powers_alone(self):
        self.assertEqual(multiplied(7, [0, 1], [0, 0, 1]), [0, 0, 0, 1])

    def test_the_prime_two(self):
        self.assertEqual(multiplied(2, [1, 1], [1, 1]), [1, 0, 1])

    def test_a_large_prime(self):
        self.assertEqual(multiplied(999983, [999982], [999982]), [1])
        self.assertEqual(multiplied(999983, [999982, 999982], [999982, 1]), [1, 0, 999982])


class OperationRefusalsTest(CallTest):
    def all_refused(self, refusal, prime, one, two):
        for operation, plain in OPERATIONS:
            self.refused(refusal, operation, prime, one, two)

    def test_bad_rows(self):
        for prime in (2, 7, 999983):
            for bad in bad_rows(prime):
                for good in ([], [1], [0, 1, 1]):
                    self.all_refused(BadRow, prime, bad, good)
                    self.all_refused(BadRow, prime, good, bad)
                self.all_refused(BadRow, prime, bad, bad)

    def test_no_primes_go_ahead_of_bad_rows(self):
        for prime in NO_PRIMES:
            for one in ([], [1], [0], [-1], [prime], [HUGE, 0]):
                for two in ([], [1], [1, 0], [-1], [HUGE]):
                    self.all_refused(NotPrime, prime, one, two)


class WorthTest(CallTest):
    def check(self, prime, row, spot):
        found = self.told(worth, prime, row, spot)
        self.assertIs(type(found), int)
        self.assertEqual(found, plain_worth(prime, row, spot), (prime, row, spot))

    def test_the_documents_example(self):
        self.assertEqual(worth(7, [2, 0, 3], 4), 1)

    def test_the_empty_row(self):
        for prime in (2, 7, 999983):
            for spot in (0, 1, prime - 1):
                self.assertEqual(worth(prime, [], spot), 0)

    def test_the_spot_nought(self):
        self.assertEqual(worth(7, [2, 0, 3], 0), 2)
        self.assertEqual(worth(7, [0, 1], 0), 0)
        self.assertEqual(worth(2, [1, 1], 0), 1)
        self.assertEqual(worth(999983, [999982, 5], 0), 999982)

    def test_the_prime_less_one(self):
        self.assertEqual(worth(7, [2, 0, 3], 6), 5)
        self.assertEqual(worth(7, [1, 2, 3, 4], 6), 5)
        self.assertEqual(worth(2, [1, 1], 1), 0)
        self.assertEqual(worth(999983, [0, 1], 999982), 999982)
        self.assertEqual(worth(999983, [0, 0, 1], 999982), 1)

    def test_all_short_rows_at_all_spots_of_small_primes(self):
        for prime, longest in ((2, 5), (3, 4), (5, 3), (7, 3)):
            for row in all_rows(prime, longest):
                for spot in range(prime):
                    self.check(prime, row, spot)

    def test_large_primes_and_long_rows(self):
        for prime in LARGE_PRIMES:
            for length in (1, 2, 10, 100, 120):
                for spot in (0, 1, 2, 1000, prime // 2, prime - 2, prime - 1):
                    self.check(prime, long_row(prime, length, 31), spot)


class WorthRefusalsTest(CallTest):
    def test_no_primes_go_ahead_of_all(self):
        for prime in NO_PRIMES:
            for row in ([], [1], [0], [1, 0], [-1], [HUGE]):
                for spot in (0, 1, -1, prime, HUGE, -HUGE):
                    self.refused(NotPrime, worth, prime, row, spot)

    def test_bad_rows_go_ahead_of_bad_spots(self):
        for prime in (2, 7, 999983):
            for row in bad_rows(prime):
                for spot in (0, 1, prime - 1) + no_remainders(prime):
                    self.refused(BadRow, worth, prime, row, spot)

    def test_bad_spots(self):
        for prime in (2, 7, 999983):
            for row in ([], [1], [0, 1], long_row(prime, 100, 2)):
                for spot in no_remainders(prime):
                    self.refused(BadSpot, worth, prime, row, spot)


class ArgumentsTest(unittest.TestCase):
    def test_the_arguments_bear_their_names(self):
        self.assertEqual(added(prime=7, one=[1, 2], two=[3]), [4, 2])
        self.assertEqual(lessened(prime=7, one=[1, 2], two=[3]), [5, 2])
        self.assertEqual(multiplied(prime=7, one=[1, 2], two=[3]), [3, 6])
        self.assertEqual(worth(prime=7, row=[2, 0, 3], spot=4), 1)


if __name__ == "__main__":
    unittest.main()
