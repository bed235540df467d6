"""All roots of a poly in fractions, met by the rests of a small prime that are made ever longer.

A trial of all divisors would never end with numbers of dozens of digits. Here a root by a small prime, at which the
slope is not zero, belongs to exactly one root by each power of the prime, and a great power tells the fraction.
"""

from sparedproducts.barepolys import bare_common, bare_quotient, bare_slope
from sparedproducts.ratios import in_lowest_terms
from sparedproducts.wholepolys import whole_poly


def whole_slope(wholes):
    """The slope of a poly of integers."""
    return [place * whole for place, whole in enumerate(wholes)][1:]


def rest_at(wholes, place, modulus):
    """The rest by the modulus that a poly of integers has at an integer."""
    value = 0
    for whole in wholes[::-1]:
        value = (value * place + whole) % modulus
    return value


def is_zero_at(wholes, top, bottom):
    """Whether a poly of integers is zero at top over bottom."""
    value = 0
    power = 1
    for whole in wholes[::-1]:
        value = value * top + whole * power
        power = power * bottom
    return value == 0


def is_prime(number):
    """Whether an integer from 2 on is a prime."""
    return all([number % low != 0 for low in range(2, number)])


def fitting_prime(wholes, slope):
    """The least prime that does not divide the last number and by which no root is a root of the slope."""
    prime = 2
    while not is_fitting(wholes, slope, prime):
        prime += 1
    return prime


def is_fitting(wholes, slope, number):
    """Whether the number is such a prime."""
    if not is_prime(number) or wholes[-1] % number == 0:
        return False
    return all([rest_at(wholes, place, number) != 0 or rest_at(slope, place, number) != 0
                for place in range(number)])


def undone_by(number, prime):
    """The rest whose product with the number has the rest 1 by a small prime."""
    rest = 1
    while number * rest % prime != 1:
        rest += 1
    return rest


def long_root(wholes, slope, place, prime):
    """The root by a great power of the prime that has the rest place, and that power."""
    # A root is a fraction whose bottom divides the last number and whose top divides the first one.
    due = 2 * abs(wholes[0]) * wholes[-1]
    modulus = prime
    undone = undone_by(rest_at(slope, place, prime), prime)
    while modulus <= due:
        modulus = modulus * modulus
        place = (place - rest_at(wholes, place, modulus) * undone) % modulus
        undone = undone * (2 - rest_at(slope, place, modulus) * undone) % modulus
    return place, modulus


def roots_of_wholes(wholes):
    """The roots, ascending, of integers whose poly has unlike roots alone, none of them 0."""
    slope = whole_slope(wholes)
    prime = fitting_prime(wholes, slope)
    lead = wholes[-1]
    tops = []
    for place in range(prime):
        if rest_at(wholes, place, prime) == 0:
            rest, modulus = long_root(wholes, slope, place, prime)
            # A root times the last number is an integer, of less than half the modulus either way.
            top = lead * rest % modulus
            top = top - modulus if 2 * top > modulus else top
            if is_zero_at(wholes, top, lead):
                tops.append(top)
    return [in_lowest_terms(top, lead) for top in sorted(tops)]


def unlike_part(figures, poly):
    """A poly with the same roots, each of them once."""
    return bare_quotient(figures, poly, bare_common(figures, poly, bare_slope(figures, poly)))


def fraction_roots(figures, poly):
    """All unlike roots, ascending, of a poly in fractions that is not the zero poly."""
    unlike = unlike_part(figures, poly)
    wholes = whole_poly(unlike)
    if wholes[0] != 0:
        return tuple(roots_of_wholes(wholes))
    found = roots_of_wholes(wholes[1:])
    ahead = [root for root in found if root[0] < 0]
    return tuple(ahead + [figures.zero] + found[len(ahead):])
