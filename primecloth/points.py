"""The row through points at different spots."""

from primecloth.errors import SameSpot
from primecloth.remainders import check_prime, check_remainder, inverse_of
from primecloth.rows import multiple_of, nought_at, product_of, sum_of, worth_of


def check_points(prime, points):
    for point in points:
        check_remainder(prime, point[0])
        check_remainder(prime, point[1])
    # Only behind all remainders, as SameSpot goes behind BadSpot.
    spots = [point[0] for point in points]
    if len(set(spots)) < len(spots):
        raise SameSpot("points at different spots are needed")


def led_through(prime, row, still, point):
    # The row still is worth nought at the spots ahead of this one and not here: with a multiple of it
    # added, the row keeps its worth there and gets the number here.
    off = point[1] - worth_of(prime, row, point[0])
    factor = off * inverse_of(prime, worth_of(prime, still, point[0]))
    return sum_of(prime, row, multiple_of(prime, still, factor))


def rows_of(prime, points):
    # The row at each place, counted from nought, is the one through so many of the first points.
    rows = [[]]
    still = [1]
    for point in points:
        rows.append(led_through(prime, rows[-1], still, point))
        still = product_of(prime, still, nought_at(prime, point[0]))
    return rows


def through(prime, points):
    check_prime(prime)
    check_points(prime, points)
    return rows_of(prime, points)[-1]
