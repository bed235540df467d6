"""Roots of polys by powers of a prime, and products that are right by such a power.

The poly comes apart by the prime. There its slope is not zero at a root, so each root belongs to just one root by
every power of the prime.
"""

from sparedproducts.errors import BadTimes, NotApart
from sparedproducts.factors import comes_apart
from sparedproducts.figures import Figures, undone_rest
from sparedproducts.primes import check_fraction_poly, check_prime, numbers_by
from sparedproducts.ratios import is_whole
from sparedproducts.wholeroots import rest_at, whole_slope

MOST_POWER = 30


class Raised:
    """Products of whole numbers that are right by the modulus."""

    def __init__(self, modulus, products):
        self.modulus = modulus
        self.products = products


def check_raised(poly, prime, times):
    """The poly as a tuple, and the roots of its reading."""
    poly = check_fraction_poly(poly)
    check_prime(prime)
    if not is_whole(times, 1, MOST_POWER):
        raise BadTimes()
    figures = Figures(prime)
    roots = comes_apart(figures, numbers_by(figures, poly))
    if roots is None:
        raise NotApart()
    return poly, roots


def power_of(prime, times):
    """The prime to the power times."""
    modulus = 1
    for _ in range(times):
        modulus = modulus * prime
    return modulus


def undone_whole(number, prime, modulus):
    """The rest whose product with the number has the rest 1 by a power of the prime."""
    rest = undone_rest(number % prime, prime)
    # Each step doubles the power of the prime by which it is right.
    while number * rest % modulus != 1:
        rest = rest * (2 - number * rest) % modulus
    return rest


def wholes_by(poly, prime, modulus):
    """The whole numbers that the ratios of the poly stand for."""
    return [top * undone_whole(bottom, prime, modulus) % modulus for top, bottom in poly]


def raised_root(wholes, root, prime, modulus):
    """The root by the modulus that belongs to a root by the prime."""
    slope = whole_slope(wholes)
    value = rest_at(wholes, root, modulus)
    while value != 0:
        root = (root - value * undone_whole(rest_at(slope, root, modulus), prime, modulus)) % modulus
        value = rest_at(wholes, root, modulus)
    return root


def roots_by_power(poly, roots, prime, modulus):
    """The roots by the modulus, in the order of the roots by the prime."""
    wholes = wholes_by(poly, prime, modulus)
    return tuple([raised_root(wholes, root, prime, modulus) for root in roots])


def raised_roots(poly, prime, times):
    """One root by the power of the prime for each root by the prime."""
    poly, roots = check_raised(poly, prime, times)
    return roots_by_power(poly, roots, prime, power_of(prime, times))


def times_straight(wholes, root, modulus):
    """The poly of whole numbers times t - root, by the modulus."""
    return [(one - root * other) % modulus for one, other in zip([0] + wholes, wholes + [0])]


def poly_at_one_root(roots, root, prime, modulus):
    """The numbers of the poly that is 1 at the root and 0 at all others."""
    made = [1]
    for other in roots:
        if other != root:
            made = times_straight(made, other, modulus)
    undone = undone_whole(rest_at(made, root, modulus), prime, modulus)
    return tuple([whole * undone % modulus for whole in made])


def power_row_by(root, many, modulus):
    """The first powers of the root, many of them."""
    row = [1]
    while len(row) < many:
        row.append(row[-1] * root % modulus)
    return tuple(row)


def raised_products(poly, prime, times):
    """As many products as the degree that are right for the square pair of the poly by the power of the prime."""
    poly, roots = check_raised(poly, prime, times)
    modulus = power_of(prime, times)
    roots = roots_by_power(poly, roots, prime, modulus)
    products = [(poly_at_one_root(roots, root, prime, modulus), power_row_by(root, len(roots), modulus), 1, root)
                for root in roots]
    return Raised(modulus, tuple(products))
