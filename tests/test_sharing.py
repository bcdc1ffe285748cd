import unittest
from itertools import combinations, permutations, product

from primecloth.errors import BadSpot, Enough, NotPrime, SameSpot, TooMany
from primecloth.sharing import first_off, row_for, secret_by, shares_of
from tests.samples import (
    HUGE, LARGE_PRIMES, NO_PRIMES, CallTest, all_rows, is_row, no_remainders, plain_worth)

def plain_shares(prime, numbers, spots):
    return [(spot, plain_worth(prime, numbers, spot)) for spot in spots]


def many_numbers(prime, count, step):
    return [(step * place * place + place + step) % prime for place in range(count)]


def all_share_lists(prime):
    """Every list of shares, the spots rising."""
    for numbers in product((None,) + tuple(range(prime)), repeat=prime - 1):
        yield [(spot, number) for spot, number in enumerate(numbers, 1) if number is not None]


def lie_together(prime, shares, rows):
    return any(all(plain_worth(prime, row, spot) == number for spot, number in shares) for row in rows)


class SharesOfTest(CallTest):
    def check(self, prime, secret, others, count):
        shares = self.told(shares_of, prime, secret, others, count)
        self.assertIs(type(shares), list)
        self.assertTrue(all(type(share) is tuple for share in shares))
        self.assertEqual(shares, plain_shares(prime, [secret] + others, range(1, count + 1)))

    def test_ordinary_secrets(self):
        self.assertEqual(shares_of(7, 2, [0, 3], 4), [(1, 5), (2, 0), (3, 1), (4, 1)])
        self.assertEqual(shares_of(11, 5, [3], 3), [(1, 8), (2, 0), (3, 3)])

    def test_a_count_of_nought(self):
        for prime in (2, 7, 999983):
            for others in ([], [1], [0, 0]):
                self.assertEqual(self.told(shares_of, prime, 1, others, 0), [])

    def test_a_count_below_nought_is_not_refused(self):
        for count in (-1, -7, -HUGE):
            self.assertEqual(shares_of(7, 1, [2], count), [])

    def test_no_others(self):
        self.assertEqual(shares_of(7, 4, [], 3), [(1, 4), (2, 4), (3, 4)])
        self.assertEqual(shares_of(7, 0, [], 2), [(1, 0), (2, 0)])

    def test_noughts_at_the_end_of_the_others(self):
        self.assertEqual(shares_of(7, 2, [3, 0, 0], 3), [(1, 5), (2, 1), (3, 4)])
        self.assertEqual(shares_of(7, 0, [0, 0], 2), [(1, 0), (2, 0)])

    def test_the_largest_counts(self):
        self.assertEqual(shares_of(2, 1, [1], 1), [(1, 0)])
        self.assertEqual(shares_of(3, 1, [1], 2), [(1, 2), (2, 0)])
        self.assertEqual(len(shares_of(7, 1, [1], 6)), 6)
        shares = shares_of(999983, 5, [999982], 999982)
        self.assertEqual(len(shares), 999982)
        self.assertEqual(shares[:6], [(1, 4), (2, 3), (3, 2), (4, 1), (5, 0), (6, 999982)])
        self.assertEqual(shares[-1], (999982, 6))

    def test_all_secrets_of_small_primes(self):
        for prime in (2, 3, 5):
            for numbers in product(range(prime), repeat=3):
                for count in range(prime):
                    self.check(prime, numbers[0], list(numbers[1:]), count)

    def test_large_primes_and_long_lists(self):
        for prime in LARGE_PRIMES:
            for length in (1, 99, 100, 120):
                for count in (1, 2, 100, 150):
                    self.check(prime, prime - 1, many_numbers(prime, length, 77), count)


class SharesOfRefusalsTest(CallTest):
    def test_too_many(self):
        for prime in (2, 3, 7, 999983):
            for count in (prime, prime + 1, 2 * prime, HUGE):
                self.refused(TooMany, shares_of, prime, 1, [], count)
                self.refused(TooMany, shares_of, prime, 0, [1, 0], count)

    def test_no_remainders_go_ahead_of_too_many(self):
        for prime in (2, 7, 999983):
            for count in (0, 1, prime - 1, prime, HUGE, -1):
                for number in no_remainders(prime):
                    self.refused(BadSpot, shares_of, prime, number, [], count)
                    self.refused(BadSpot, shares_of, prime, number, [1], count)
                    self.refused(BadSpot, shares_of, prime, 1, [number], count)
                    self.refused(BadSpot, shares_of, prime, 1, [0, number, 1], count)
                    self.refused(BadSpot, shares_of, prime, 1, [0] * 99 + [number], count)

    def test_no_primes_go_ahead_of_every_other_refusal(self):
        for prime in NO_PRIMES:
            for secret in (0, 1, -1, prime, HUGE):
                for others in ([], [0], [-1], [prime, HUGE]):
                    for count in (0, 1, prime, HUGE):
                        self.refused(NotPrime, shares_of, prime, secret, others, count)


class SecretByTest(CallTest):
    def check(self, prime, secret, shares):
        found = self.told(secret_by, prime, shares)
        self.assertIs(type(found), int)
        self.assertEqual(found, secret, (prime, shares))

    def test_ordinary_shares(self):
        self.check(7, 2, [(1, 5), (2, 0), (3, 1)])
        self.check(7, 2, [(4, 1), (1, 5), (3, 1)])
        self.check(11, 5, [(2, 0), (3, 3)])

    def test_no_shares(self):
        for prime in (2, 7, 999983):
            self.check(prime, 0, [])

    def test_one_share(self):
        for prime in (2, 7, 999983):
            for spot in (1, prime - 1):
                for number in (0, 1, prime - 1):
                    self.check(prime, number, [(spot, number)])

    def test_fewer_shares_than_numbers_give_what_their_own_row_is_worth(self):
        self.check(7, 5, [(1, 5)])
        self.check(7, 3, [(1, 5), (2, 0)])

    def test_all_choices_in_all_orders(self):
        for prime, length in ((5, 1), (5, 2), (5, 3), (5, 4), (7, 2)):
            for numbers in product(range(prime), repeat=length):
                if prime == 7 or sum(numbers) % 3 == 0:
                    shares = plain_shares(prime, numbers, range(1, prime))
                    for count in range(length, min(prime, length + 2)):
                        for choice in permutations(shares, count):
                            self.assertEqual(secret_by(prime, list(choice)), numbers[0], (numbers, choice))

    def test_all_choices_of_told_shares(self):
        shares = shares_of(97, 45, [0, 96, 12, 0], 8)
        for count in range(5, 9):
            for choice in combinations(shares, count):
                self.check(97, 45, list(choice))
                self.check(97, 45, list(choice[::-1]))

    def test_large_primes_and_long_lists(self):
        for prime in LARGE_PRIMES:
            for secret in (0, 1, prime - 1):
                numbers = [secret] + many_numbers(prime, 99, 31)
                self.check(prime, secret, plain_shares(prime, numbers, range(1, 101)))
                self.check(prime, secret, plain_shares(prime, numbers, range(prime - 1, prime - 121, -1)))

    def test_every_spot_of_a_prime(self):
        for prime in (2, 3, 13, 101):
            numbers = many_numbers(prime, prime - 1, 3)
            self.check(prime, numbers[0], plain_shares(prime, numbers, range(1, prime)))


class ShareRefusalsTest(CallTest):
    def all_refused(self, refusal, prime, shares):
        self.refused(refusal, secret_by, prime, shares)
        self.refused(refusal, row_for, prime, shares, len(shares) + 1, 1)
        self.refused(refusal, first_off, prime, shares, 1)

    def test_the_spot_nought(self):
        for prime in (2, 7, 999983):
            for number in (0, 1, prime - 1):
                self.all_refused(BadSpot, prime, [(0, number)])
                self.all_refused(BadSpot, prime, [(0, number), (1, 1)])
                self.all_refused(BadSpot, prime, [(1, 1), (0, number)])

    def test_no_remainders(self):
        for prime in (2, 7, 999983):
            for number in no_remainders(prime):
                for bad in ((number, 0), (1, number), (number, number)):
                    self.all_refused(BadSpot, prime, [bad])
                    self.all_refused(BadSpot, prime, [bad, (prime - 1, 1)])
                    self.all_refused(BadSpot, prime, [(prime - 1, 1), bad])
        self.all_refused(BadSpot, 999983, [(spot, 1) for spot in range(1, 100)] + [(100, HUGE)])

    def test_one_spot_twice(self):
        for prime in (2, 7, 999983):
            for spot in (1, prime - 1):
                self.all_refused(SameSpot, prime, [(spot, 1), (spot, 0)])
                self.all_refused(SameSpot, prime, [(spot, 1), (spot, 1)])
        self.all_refused(SameSpot, 7, [(1, 1), (2, 1), (3, 1), (1, 1)])
        self.all_refused(SameSpot, 2, [(1, 0)] * 100)
        self.all_refused(SameSpot, 999983, [(spot, 1) for spot in range(1, 100)] + [(99, 1)])

    def test_one_spot_twice_goes_behind_bad_spots(self):
        for prime in (2, 7, 999983):
            bad_shares = [(0, 0), (0, 1)]
            for number in no_remainders(prime):
                bad_shares += [(number, 0), (1, number)]
            for bad in bad_shares:
                self.all_refused(BadSpot, prime, [bad, (1, 1), (1, 0)])
                self.all_refused(BadSpot, prime, [(1, 1), bad, (1, 0)])
                self.all_refused(BadSpot, prime, [(1, 1), (1, 1), bad])
                self.all_refused(BadSpot, prime, [bad, bad])

    def test_no_primes_go_ahead_of_every_other_refusal(self):
        for prime in NO_PRIMES:
            for shares in ([], [(1, 1)], [(0, 0)], [(1, 1), (1, 1)], [(-1, HUGE), (0, 0), (0, 0)]):
                self.all_refused(NotPrime, prime, shares)
                for needed in (-1, 0, 1, HUGE):
                    self.refused(NotPrime, first_off, prime, shares, needed)
                    for secret in (0, -1, prime, HUGE):
                        self.refused(NotPrime, row_for, prime, shares, needed, secret)


class RowForTest(CallTest):
    def check(self, prime, shares, needed, secret):
        row = self.told(row_for, prime, shares, needed, secret)
        self.assertTrue(is_row(prime, row), (prime, shares, needed, secret, row))
        self.assertLessEqual(len(row), needed, (prime, shares, needed, secret, row))
        for spot, number in shares + [(0, secret)]:
            self.assertEqual(plain_worth(prime, row, spot), number, (prime, shares, needed, secret, row))

    def test_no_shares(self):
        self.assertEqual(row_for(7, [], 1, 4), [4])
        self.assertEqual(row_for(7, [], 1, 0), [])
        for prime in (2, 7, 999983):
            for secret in (0, 1, prime - 1):
                for needed in (1, 2, 100, HUGE):
                    self.check(prime, [], needed, secret)

    def test_one_share_fewer_than_needed_leaves_one_row(self):
        self.assertEqual(row_for(7, [(1, 5), (2, 0)], 3, 2), [2, 0, 3])
        self.assertEqual(row_for(7, [(1, 5), (2, 0)], 3, 3), [3, 2])

    def test_all_shares_of_small_primes(self):
        for prime in (2, 3, 5):
            for shares in all_share_lists(prime):
                for needed in (len(shares) + 1, len(shares) + 2):
                    for secret in range(prime):
                        self.check(prime, shares, needed, secret)

    def test_large_primes_and_long_lists(self):
        for prime in LARGE_PRIMES:
            numbers = many_numbers(prime, 100, 9)
            for count in (1, 2, 50, 99, 100):
                shares = plain_shares(prime, numbers, range(prime - 1, prime - 1 - count, -1))
                for secret in (0, 1, prime - 1):
                    self.check(prime, shares, count + 1, secret)
                    self.check(prime, shares, HUGE, secret)


class RowForRefusalsTest(CallTest):
    def test_enough(self):
        for prime in (2, 7, 999983):
            shares = [(1, 1)]
            for secret in (0, 1, prime - 1):
                for needed in (1, 0, -1, -HUGE):
                    self.refused(Enough, row_for, prime, shares, needed, secret)
                for needed in (0, -1, -HUGE):
                    self.refused(Enough, row_for, prime, [], needed, secret)
        shares = [(spot, spot) for spot in range(1, 101)]
        for needed in (100, 99, 1, 0):
            self.refused(Enough, row_for, 999983, shares, needed, 1)

    def test_enough_goes_behind_a_secret_that_is_no_remainder(self):
        for prime in (2, 7, 999983):
            for secret in no_remainders(prime):
                for needed in (-HUGE, 0, 1, 2, HUGE):
                    self.refused(BadSpot, row_for, prime, [], needed, secret)
                    self.refused(BadSpot, row_for, prime, [(1, 1)], needed, secret)

    def test_a_secret_that_is_no_remainder_and_enough_go_behind_one_spot_twice(self):
        for prime in (2, 7, 999983):
            for secret in (0, 1) + no_remainders(prime):
                for needed in (0, 1, 2, 3, HUGE):
                    self.refused(SameSpot, row_for, prime, [(1, 1), (1, 0)], needed, secret)

    def test_enough_goes_behind_bad_shares(self):
        for prime in (2, 7, 999983):
            for bad in ((0, 0), (prime, 0), (1, prime), (-1, 1), (HUGE, HUGE)):
                for needed in (0, 1, 2):
                    self.refused(BadSpot, row_for, prime, [bad], needed, 1)


class FirstOffTest(CallTest):
    def check(self, place, prime, shares, needed):
        found = self.told(first_off, prime, shares, needed)
        self.assertEqual(found, place, (prime, shares, needed))
        self.assertIs(type(found), type(place))

    def test_ordinary_shares(self):
        shares = [(1, 5), (2, 0), (3, 1), (4, 1)]
        self.check(None, 7, shares, 3)
        self.check(2, 7, shares, 2)
        self.check(1, 7, shares, 1)
        self.check(0, 7, shares, 0)
        self.check(3, 7, [(1, 5), (2, 0), (3, 1), (4, 2)], 3)

    def test_no_shares(self):
        for prime in (2, 7, 999983):
            for needed in (0, 1, HUGE, -1):
                self.check(None, prime, [], needed)

    def test_nought_needed(self):
        self.check(None, 7, [(1, 0), (2, 0), (6, 0)], 0)
        self.check(0, 7, [(1, 1), (2, 0)], 0)
        self.check(2, 7, [(1, 0), (2, 0), (6, 3)], 0)
        self.check(0, 2, [(1, 1)], 0)
        self.check(None, 2, [(1, 0)], 0)

    def test_a_count_below_nought_is_not_refused(self):
        # No row has fewer numbers than none.
        for needed in (-1, -2, -HUGE):
            self.check(0, 7, [(1, 0), (2, 0)], needed)

    def test_as_many_needed_as_there_are_shares_or_more(self):
        shares = [(1, 5), (2, 6), (3, 1), (4, 1)]
        for needed in (4, 5, 6, 7, 100, HUGE):
            self.check(None, 7, shares, needed)

    def test_one_number_needed(self):
        self.check(None, 7, [(1, 3), (2, 3), (6, 3)], 1)
        self.check(2, 7, [(1, 3), (2, 3), (6, 4), (5, 4)], 1)

    def test_only_the_first_of_several_is_told(self):
        self.check(2, 7, [(1, 1), (2, 2), (3, 4), (4, 4), (5, 0)], 2)

    def test_all_shares_of_small_primes(self):
        for prime, needed in ((2, 0), (2, 1), (2, 2), (3, 0), (3, 1), (3, 2), (3, 3), (5, 0), (5, 1), (5, 2)):
            rows = all_rows(prime, needed)
            for shares in all_share_lists(prime):
                fits = [lie_together(prime, shares[:end + 1], rows) for end in range(len(shares))]
                self.check(fits.index(False) if False in fits else None, prime, shares, needed)

    def test_large_primes_and_long_lists(self):
        for prime in LARGE_PRIMES:
            for needed in (1, 2, 50, 99):
                shares = plain_shares(prime, many_numbers(prime, needed, 13), range(prime - 1, prime - 101, -1))
                self.check(None, prime, shares, needed)
                self.check(needed - 1, prime, shares, needed - 1)
                for place in (needed, (needed + 99) // 2, 99):
                    changed = list(shares)
                    changed[place] = (shares[place][0], (shares[place][1] + 1) % prime)
                    self.check(place, prime, changed, needed)


class ArgumentsTest(unittest.TestCase):
    def test_the_arguments_bear_their_names(self):
        self.assertEqual(shares_of(prime=7, secret=2, others=[3], count=2), [(1, 5), (2, 1)])
        self.assertEqual(secret_by(prime=7, shares=[(1, 5), (2, 1)]), 2)
        self.assertEqual(row_for(prime=7, shares=[(1, 5)], needed=2, secret=2), [2, 3])
        self.assertEqual(first_off(prime=7, shares=[(1, 5), (2, 1)], needed=1), 1)


if __name__ == "__main__":
    unittest.main()
