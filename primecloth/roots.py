"""The roots of a row, each with its times, and the row that is left without them."""

from primecloth.dividing import common_of, parts_of
from primecloth.errors import AllRoots
from primecloth.remainders import check_prime
from primecloth.rows import check_row, difference_of, nought_at, product_of, worth_of


def power_of(prime, base, exponent, row):
    # The rest by the row is taken at every step, as the power itself would be far too long.
    if exponent == 0:
        return parts_of(prime, [1], row)[1]
    half = power_of(prime, base, exponent // 2, row)
    power = parts_of(prime, product_of(prime, half, half), row)[1]
    if exponent % 2 == 1:
        power = parts_of(prime, product_of(prime, power, base), row)[1]
    return power


def once_each_of(prime, row):
    # A remainder taken as often as the prime tells gives itself: so the power less its base has every spot
    # as a root, each of them once, and in common with the row just the row's roots, each of them once.
    base = [0, 1]
    power = power_of(prime, base, prime, row)
    return common_of(prime, row, difference_of(prime, power, base))[0]


def halves_of(prime, row, shift):
    # The first half has the roots that, with the shift added and taken prime // 2 times, give one.
    power = power_of(prime, [shift, 1], prime // 2, row)
    half = common_of(prime, row, difference_of(prime, power, [1]))[0]
    return (half, parts_of(prime, row, half)[0])


def spots_of(prime, row):
    # Trying every spot would take far too long for a large prime, so the roots are parted until each one
    # stands alone. Some shift below the prime parts any two of them: the spots that give one, taken
    # prime // 2 times, would else go over into themselves when moved by the distance of the two, and so
    # be all spots or none; but one is among them, and nought is not.
    spots = []
    pieces = [once_each_of(prime, row)]
    shift = 0
    while len(pieces) > 0:
        longer = []
        for piece in pieces:
            for half in halves_of(prime, piece, shift):
                if len(half) == 2:
                    spots.append((-half[0]) % prime)
                if len(half) > 2:
                    longer.append(half)
        pieces = longer
        shift += 1
    return sorted(spots)


def roots(prime, row):
    check_prime(prime)
    check_row(prime, row)
    if len(row) == 0:
        raise AllRoots("every spot is a root of the empty row")
    found = []
    left = list(row)
    for spot in spots_of(prime, row):
        times = 0
        while worth_of(prime, left, spot) == 0:
            left = parts_of(prime, left, nought_at(prime, spot))[0]
            times += 1
        found.append((spot, times))
    return (found, left)
