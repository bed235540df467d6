"""Discriminants of polys of fractions, and the primes by which two roots fall together."""

from sparedproducts.barepolys import trimmed
from sparedproducts.errors import BadNumber
from sparedproducts.factors import has_twice
from sparedproducts.figures import Figures
from sparedproducts.invariants import bare_determinant
from sparedproducts.polys import last_column
from sparedproducts.primes import PRIMES, check_fraction_poly, poly_by_prime
from sparedproducts.solving import table_times, unit_table


def diagonal_sum(figures, table):
    """The sum of the numbers on the diagonal."""
    total = figures.zero
    for place, row in enumerate(table):
        total = figures.plus(total, row[place])
    return total


def power_sums(figures, table, many):
    """The diagonal sums of the first powers of the table, many of them, that of the unit table first."""
    power = unit_table(figures, len(table))
    sums = []
    while len(sums) < many:
        sums.append(diagonal_sum(figures, power))
        power = table_times(figures, power, table)
    return sums


def discriminant_of(poly):
    """The determinant of the table of the diagonal sums of the powers of the last column."""
    figures = Figures(0)
    poly = check_fraction_poly(poly)
    degree = len(poly) - 1
    sums = power_sums(figures, last_column(figures, poly), 2 * degree - 1)
    polys = [trimmed(figures, (number,)) for number in sums]
    made = bare_determinant(figures, [polys[place:place + degree] for place in range(degree)])
    return figures.zero if len(made) == 0 else made[0]


def stays_unlike(poly, prime):
    """Whether no square of a poly divides the reading of the poly."""
    reading = poly_by_prime(poly, prime)
    return not has_twice(Figures(prime), reading)


def falls_by(poly, prime):
    """Whether the poly can be read by the prime and does not stay unlike."""
    try:
        return not stays_unlike(poly, prime)
    except BadNumber:
        return False


def falling_primes(poly):
    """The primes, ascending, by which the poly can be read and does not stay unlike."""
    poly = check_fraction_poly(poly)
    return tuple([prime for prime in PRIMES if falls_by(poly, prime)])
