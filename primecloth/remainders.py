"""Primes up to a million, their remainders, and the inverse of a remainder.

Here and in the other modules, functions that the interface does not name take what has been checked already,
but for those called check_...
"""

from primecloth.errors import BadSpot, NoDivisor, NotPrime

LARGEST = 1000000


def is_prime(number):
    # A number above the largest is turned away ahead of the search, which would never end for a huge one.
    if number < 2 or number > LARGEST:
        return False
    divisor = 2
    # Of two numbers that multiply to this one, the smaller is at most its root.
    while divisor * divisor <= number:
        if number % divisor == 0:
            return False
        divisor += 1
    return True


def is_remainder(prime, number):
    return 0 <= number and number < prime


def check_prime(prime):
    if not is_prime(prime):
        raise NotPrime("a prime from two to a million is needed")


def check_remainder(prime, number):
    if not is_remainder(prime, number):
        raise BadSpot("a remainder of the prime is needed")


def inverse_of(prime, number):
    factor = 1
    left = number
    # At every turn, factor * number and left are the same but for multiples of the prime. The next left,
    # prime - (prime // left) * left, is smaller; it is never nought, as nothing from two on below the
    # prime divides it, so one is reached.
    while left != 1:
        factor = (-factor * (prime // left)) % prime
        left = prime % left
    return factor


def inverse(prime, number):
    check_prime(prime)
    check_remainder(prime, number)
    if number == 0:
        raise NoDivisor("nought has no inverse")
    return inverse_of(prime, number)
