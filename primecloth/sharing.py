"""Secrets in shares: telling them, getting them back, and finding a share that is off."""

from primecloth.errors import BadSpot, Enough, TooMany
from primecloth.points import check_points, rows_of
from primecloth.remainders import check_prime, check_remainder
from primecloth.rows import worth_of


def check_shares(prime, shares):
    for share in shares:
        if share[0] == 0:
            raise BadSpot("no share lies at the spot nought")
    check_points(prime, shares)


def shares_of(prime, secret, others, count):
    check_prime(prime)
    numbers = [secret] + others
    for number in numbers:
        check_remainder(prime, number)
    if count >= prime:
        raise TooMany("there are fewer spots for shares than that")
    return [(spot, worth_of(prime, numbers, spot)) for spot in range(1, count + 1)]


def secret_by(prime, shares):
    check_prime(prime)
    check_shares(prime, shares)
    return worth_of(prime, rows_of(prime, shares)[-1], 0)


def row_for(prime, shares, needed, secret):
    check_prime(prime)
    check_shares(prime, shares)
    check_remainder(prime, secret)
    if len(shares) >= needed:
        raise Enough("as many shares as are needed tell the secret already")
    # The secret is one more point, at a spot where no share lies.
    return rows_of(prime, shares + [(0, secret)])[-1]


def first_off(prime, shares, needed):
    check_prime(prime)
    check_shares(prime, shares)
    rows = rows_of(prime, shares)
    # Where this row is too long, no other one is short enough: it too would have no more numbers than
    # there are points, and there is just one such row.
    for place in range(len(shares)):
        if len(rows[place + 1]) > needed:
            return place
    return None
