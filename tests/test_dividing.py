import unittest

from primecloth.dividing import common, divides, split
from primecloth.errors import BadRow, NoDivisor, NotPrime
from tests.samples import (
    HUGE, LARGE_PRIMES, NO_PRIMES, CallTest, all_rows, bad_rows, is_row, long_row, plain_product, plain_sum,
    row_with_roots)

FUNCTIONS = (split, divides, common)


def divisors(prime, longest):
    """For each row of at most `longest` numbers, the rows of that length that divide it, by trying all."""
    rows = all_rows(prime, longest)
    found = {tuple(row): set() for row in rows}
    for one in rows:
        for factor in rows:
            product = tuple(plain_product(prime, one, factor))
            if product in found:
                found[product].add(tuple(one))
    return found


class SplitTest(CallTest):
    def check(self, prime, one, two):
        answer = self.told(split, prime, one, two)
        self.assertIs(type(answer), tuple)
        quotient, rest = answer
        message = (prime, one, two, answer)
        self.assertTrue(is_row(prime, quotient), message)
        self.assertTrue(is_row(prime, rest), message)
        self.assertLess(len(rest), len(two), message)
        self.assertEqual(plain_sum(prime, plain_product(prime, quotient, two), rest), one, message)

    def check_all_pairs(self, prime, rows):
        for one in rows:
            for two in rows:
                if two:
                    self.check(prime, one, two)

    def test_ordinary_rows(self):
        self.assertEqual(split(7, [6, 0, 1], [1, 1]), ([6, 1], []))
        self.assertEqual(split(7, [2, 0, 3], [4, 5]), ([4, 2], []))
        self.assertEqual(split(7, [3, 0, 3], [4, 5]), ([4, 2], [1]))
        self.assertEqual(split(5, [1, 2, 3, 4], [1, 0, 2]), ([4, 2], [2]))

    def test_a_shorter_row_is_all_rest(self):
        self.assertEqual(split(7, [3, 4], [1, 2, 3]), ([], [3, 4]))
        self.assertEqual(split(7, [3], [0, 1]), ([], [3]))
        self.assertEqual(split(2, [1], [1] * 100), ([], [1]))

    def test_the_empty_row(self):
        self.assertEqual(split(7, [], [3]), ([], []))
        self.assertEqual(split(7, [], [0, 0, 1]), ([], []))
        self.assertEqual(split(2, [], [1]), ([], []))

    def test_by_a_row_of_one_number(self):
        self.assertEqual(split(7, [1, 0, 3], [3]), ([5, 0, 1], []))
        self.assertEqual(split(2, [1, 0, 1], [1]), ([1, 0, 1], []))
        self.assertEqual(split(999983, [1], [999982]), ([999982], []))

    def test_by_itself(self):
        for prime in (2, 7, 999983):
            for row in ([1], [0, 1], long_row(prime, 100, 6)):
                self.assertEqual(split(prime, row, row), ([1], []))

    def test_noughts_within_the_quotient_and_the_rest(self):
        self.assertEqual(split(7, [0, 2, 0, 0, 1], [0, 0, 1]), ([0, 0, 1], [0, 2]))
        self.assertEqual(split(2, [1, 0, 0, 0, 1], [1, 0, 1]), ([1, 0, 1], []))

    def test_all_short_rows_of_small_primes(self):
        self.check_all_pairs(2, all_rows(2, 6))
        self.check_all_pairs(3, all_rows(3, 4))
        self.check_all_pairs(5, all_rows(5, 2))
        self.check_all_pairs(7, all_rows(7, 2))

    def test_large_primes(self):
        for prime in LARGE_PRIMES:
            rows = [[], [1], [prime - 1], [0, 1], [prime - 1, 1], [1, prime - 1], [0, 0, 2]]
            rows += [long_row(prime, length, step) for length, step in ((3, 5), (8, 1001), (20, 77777))]
            self.check_all_pairs(prime, rows)

    def test_lists_of_a_hundred_parts_and_somewhat_more(self):
        for prime in (2, 7, 999983):
            rows = [[prime - 1] * 100, [1], [0, 1], [0] * 99 + [1]]
            rows += [long_row(prime, length, 3) for length in (50, 99, 100, 101, 120)]
            self.check_all_pairs(prime, rows)


class DividesTest(CallTest):
    def test_ordinary_rows(self):
        self.assertIs(self.told(divides, 7, [1, 1], [6, 0, 1]), True)
        self.assertIs(self.told(divides, 7, [2, 1], [6, 0, 1]), False)
        self.assertIs(self.told(divides, 7, [6, 0, 1], [1, 1]), False)
        self.assertIs(self.told(divides, 7, [3], [1, 2]), True)

    def test_every_row_divides_the_empty_one(self):
        for prime in (2, 7, 999983):
            for row in ([], [1], [prime - 1], [0, 1], long_row(prime, 100, 2)):
                self.assertIs(self.told(divides, prime, row, []), True, (prime, row))

    def test_the_empty_row_divides_itself_alone(self):
        for prime in (2, 7, 999983):
            for row in ([1], [prime - 1], [0, 1], long_row(prime, 100, 2)):
                self.assertIs(self.told(divides, prime, [], row), False, (prime, row))

    def test_all_short_rows_of_small_primes(self):
        for prime, longest in ((2, 5), (3, 3), (5, 2), (7, 2)):
            found = divisors(prime, longest)
            for one in all_rows(prime, longest):
                for two in all_rows(prime, longest):
                    self.assertIs(divides(prime, one, two), tuple(one) in found[tuple(two)], (prime, one, two))

    def test_large_primes_and_long_rows(self):
        for prime in LARGE_PRIMES:
            one = long_row(prime, 40, 12)
            two = plain_product(prime, one, long_row(prime, 61, 5))
            self.assertEqual(len(two), 100)
            self.assertIs(divides(prime, one, two), True)
            self.assertIs(divides(prime, one, plain_sum(prime, two, [1])), False)
            self.assertIs(divides(prime, one, plain_sum(prime, two, [0] * 38 + [1])), False)
            self.assertIs(divides(prime, two, one), False)


class CommonTest(CallTest):
    def check(self, prime, one, two):
        answer = self.told(common, prime, one, two)
        self.assertIs(type(answer), tuple)
        self.assertEqual(len(answer), 3)
        message = (prime, one, two, answer)
        for row in answer:
            self.assertTrue(is_row(prime, row), message)
        first = plain_product(prime, answer[1], one)
        second = plain_product(prime, answer[2], two)
        self.assertEqual(plain_sum(prime, first, second), answer[0], message)
        if one or two:
            self.assertEqual(answer[0][-1:], [1], message)
        return answer[0]

    def test_ordinary_rows(self):
        self.assertEqual(self.check(7, [6, 0, 1], [1, 2, 1]), [1, 1])
        self.assertEqual(self.check(7, [1, 2, 1], [6, 0, 1]), [1, 1])
        self.assertEqual(self.check(7, [1, 1], [2, 1]), [1])
        self.assertEqual(self.check(7, [2, 2], [4, 4]), [1, 1])

    def test_two_empty_rows(self):
        for prime in (2, 7, 999983):
            self.assertEqual(self.check(prime, [], []), [])

    def test_one_empty_row(self):
        for one, two in (([], [4, 2]), ([4, 2], [])):
            self.assertEqual(self.check(7, one, two), [2, 1])
        for one, two in (([], [999982]), ([999982], [])):
            self.assertEqual(self.check(999983, one, two), [1])
        self.assertEqual(self.check(2, [], [0, 1]), [0, 1])

    def test_one_row_twice(self):
        for prime in (2, 7, 999983):
            row = row_with_roots(prime, prime - 1, [0, 1, 1, prime - 1])
            before = list(row)
            answer = common(prime, row, row)
            self.assertEqual(answer[0], row_with_roots(prime, 1, [0, 1, 1, prime - 1]))
            self.assertEqual(row, before)

    def test_all_short_rows_of_small_primes(self):
        for prime, longest in ((2, 5), (3, 3), (5, 2), (7, 2)):
            found = divisors(prime, longest)
            for one in all_rows(prime, longest):
                for two in all_rows(prime, longest):
                    greatest = tuple(self.check(prime, one, two))
                    both = found[tuple(one)] & found[tuple(two)]
                    self.assertIn(greatest, both, (prime, one, two))
                    self.assertLessEqual(both, found[greatest], (prime, one, two))

    def test_rows_of_known_roots(self):
        for prime in LARGE_PRIMES:
            shared = [0, 1, 1, prime - 1, prime // 2] + list(range(1000, 1030))
            one = row_with_roots(prime, 5, shared + [1, 2, 2] + list(range(2000, 2060)))
            two = row_with_roots(prime, prime - 1, shared + list(range(3000, 3064)))
            self.assertEqual(len(two), 100)
            self.assertEqual(self.check(prime, one, two), row_with_roots(prime, 1, shared))
            self.assertEqual(self.check(prime, two, one), row_with_roots(prime, 1, shared))

    def test_long_rows(self):
        for prime in (2, 7, 999983):
            shared = long_row(prime, 30, 8)
            one = plain_product(prime, shared, row_with_roots(prime, 1, [0] * 70))
            two = plain_product(prime, shared, row_with_roots(prime, 1, [1] * 70))
            factor = pow(shared[-1], -1, prime)
            self.assertEqual(self.check(prime, one, two), plain_product(prime, shared, [factor]))
            self.check(prime, long_row(prime, 100, 3), long_row(prime, 100, 44))
            self.check(prime, long_row(prime, 120, 3), long_row(prime, 7, 44))


class RefusalsTest(CallTest):
    def test_split_by_the_empty_row(self):
        for prime in (2, 7, 999983):
            for row in ([], [1], [0, 1], long_row(prime, 100, 4)):
                self.refused(NoDivisor, split, prime, row, [])

    def test_bad_rows(self):
        for prime in (2, 7, 999983):
            for bad in bad_rows(prime):
                for good in ([], [1], [0, 1, 1]):
                    for function in FUNCTIONS:
                        self.refused(BadRow, function, prime, bad, good)
                        self.refused(BadRow, function, prime, good, bad)
                for function in FUNCTIONS:
                    self.refused(BadRow, function, prime, bad, bad)

    def test_no_primes_go_ahead_of_every_other_refusal(self):
        for prime in NO_PRIMES:
            for one in ([], [1], [0], [-1], [prime], [HUGE, 0]):
                for two in ([], [1], [1, 0], [-1], [HUGE]):
                    for function in FUNCTIONS:
                        self.refused(NotPrime, function, prime, one, two)


class ArgumentsTest(unittest.TestCase):
    def test_the_arguments_bear_their_names(self):
        self.assertEqual(split(prime=7, one=[6, 0, 1], two=[1, 1]), ([6, 1], []))
        self.assertIs(divides(prime=7, one=[1, 1], two=[6, 0, 1]), True)
        self.assertEqual(common(prime=7, one=[3], two=[])[0], [1])


if __name__ == "__main__":
    unittest.main()
