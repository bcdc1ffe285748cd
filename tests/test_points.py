import unittest
from itertools import product

from primecloth.errors import BadSpot, NotPrime, SameSpot
from primecloth.points import through
from tests.samples import HUGE, LARGE_PRIMES, NO_PRIMES, CallTest, is_row, no_remainders, plain_worth


def all_point_lists(prime):
    """Every list of points at different spots, the spots rising."""
    for numbers in product((None,) + tuple(range(prime)), repeat=prime):
        yield [(spot, number) for spot, number in enumerate(numbers) if number is not None]


def many_points(prime, count, step):
    return [(step * place % prime, (place ** 4 + step * place + 5) % prime) for place in range(count)]


class ThroughTest(CallTest):
    def check(self, prime, points):
        row = self.told(through, prime, points)
        self.assertTrue(is_row(prime, row), (prime, points, row))
        self.assertLessEqual(len(row), len(points), (prime, points, row))
        for spot, number in points:
            self.assertEqual(plain_worth(prime, row, spot), number, (prime, points, row))
        return row

    def test_no_points(self):
        for prime in (2, 7, 999983):
            self.assertEqual(self.check(prime, []), [])

    def test_one_point(self):
        self.assertEqual(self.check(7, [(3, 5)]), [5])
        self.assertEqual(self.check(7, [(3, 0)]), [])
        self.assertEqual(self.check(2, [(0, 1)]), [1])
        self.assertEqual(self.check(999983, [(999982, 999982)]), [999982])

    def test_ordinary_points(self):
        self.assertEqual(self.check(7, [(4, 1), (0, 2), (1, 5)]), [2, 0, 3])
        self.assertEqual(self.check(7, [(1, 1), (2, 2)]), [0, 1])
        self.assertEqual(self.check(2, [(0, 1), (1, 0)]), [1, 1])

    def test_more_points_than_numbers(self):
        self.assertEqual(self.check(7, [(spot, 4) for spot in range(7)]), [4])
        self.assertEqual(self.check(7, [(spot, 0) for spot in range(7)]), [])
        self.assertEqual(self.check(7, [(spot, spot * spot % 7) for spot in range(7)]), [0, 0, 1])

    def test_all_points_of_small_primes(self):
        for prime in (2, 3, 5):
            for points in all_point_lists(prime):
                self.assertEqual(self.check(prime, points), self.check(prime, points[::-1]))

    def test_all_spots_of_a_prime(self):
        for prime in (13, 97, 101):
            self.check(prime, many_points(prime, prime, 5))

    def test_a_hundred_points_and_somewhat_more(self):
        for prime in LARGE_PRIMES:
            for count in (2, 3, 99, 100, 120):
                for step in (1, 7001, prime - 1):
                    points = many_points(prime, count, step)
                    self.assertEqual(self.check(prime, points), self.check(prime, points[::2] + points[1::2]))


class RefusalsTest(CallTest):
    def test_a_spot_or_a_number_that_is_no_remainder(self):
        for prime in (2, 7, 999983):
            for number in no_remainders(prime):
                for bad in ((number, 0), (0, number), (number, number)):
                    self.refused(BadSpot, through, prime, [bad])
                    self.refused(BadSpot, through, prime, [bad, (1, 1)])
                    self.refused(BadSpot, through, prime, [(1, 1), bad])
        for bad in ((HUGE, 1), (100, -HUGE)):
            self.refused(BadSpot, through, 999983, many_points(999983, 99, 1) + [bad])

    def test_one_spot_twice(self):
        for prime in (2, 7, 999983):
            for spot in (0, 1, prime - 1):
                self.refused(SameSpot, through, prime, [(spot, 1), (spot, 0)])
                self.refused(SameSpot, through, prime, [(spot, 1), (spot, 1)])
                self.refused(SameSpot, through, prime, [(spot, 1), ((spot + 1) % prime, 1), (spot, 0)])
        self.refused(SameSpot, through, 999983, many_points(999983, 99, 1) + [(0, 1)])
        self.refused(SameSpot, through, 2, [(place % 2, 0) for place in range(100)])

    def test_one_spot_twice_goes_behind_no_remainders(self):
        for prime in (2, 7, 999983):
            for number in no_remainders(prime):
                for bad in ((number, 0), (1, number)):
                    self.refused(BadSpot, through, prime, [(0, 1), (0, 1), bad])
                    self.refused(BadSpot, through, prime, [(0, 1), bad, (0, 1)])
                    self.refused(BadSpot, through, prime, [bad, (0, 1), (0, 1)])
                self.refused(BadSpot, through, prime, [(number, 0), (number, 0)])
                self.refused(BadSpot, through, prime, [(0, 0), (0, number)])

    def test_spots_that_differ_by_the_prime_are_no_one_spot(self):
        self.refused(BadSpot, through, 7, [(1, 1), (8, 1)])

    def test_no_primes_go_ahead_of_every_other_refusal(self):
        for prime in NO_PRIMES:
            for points in ([], [(0, 0)], [(1, 1), (1, 1)], [(-1, 0)], [(HUGE, HUGE), (0, -1), (0, 0)]):
                self.refused(NotPrime, through, prime, points)


class ArgumentsTest(unittest.TestCase):
    def test_the_arguments_bear_their_names(self):
        self.assertEqual(through(prime=7, points=[(1, 1), (2, 2)]), [0, 1])


if __name__ == "__main__":
    unittest.main()
