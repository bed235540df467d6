"""The straight factors of polys: roots, how often each, and what stays."""

from sparedproducts.barepolys import bare_common, bare_led, bare_over, bare_slope, bare_value
from sparedproducts.barepolys import straight_poly
from sparedproducts.errors import BadPoly
from sparedproducts.polys import check_poly
from sparedproducts.wholeroots import fraction_roots


def check_not_zero(figures, poly):
    """A poly that is not the zero poly, as a tuple."""
    poly = check_poly(figures, poly)
    if len(poly) == 0:
        raise BadPoly(0, "zero")
    return poly


def bare_roots(figures, poly):
    """The unlike roots, ascending, of a poly of any length that is not zero."""
    if figures.prime == 0:
        return fraction_roots(figures, poly)
    return tuple([number for number in figures.all_numbers()
                  if bare_value(figures, poly, number) == figures.zero])


def divided_out(figures, poly, root):
    """How many times t - root divides the poly, and the poly that stays."""
    straight = straight_poly(figures, root)
    times = 0
    quotient, rest = bare_over(figures, poly, straight)
    while len(rest) == 0:
        times += 1
        poly = quotient
        quotient, rest = bare_over(figures, poly, straight)
    return times, poly


def roots_of(figures, poly):
    """All unlike roots, ascending."""
    return bare_roots(figures, check_not_zero(figures, poly))


def times_of(figures, poly, root):
    """How many times t - root divides the poly one after another."""
    return divided_out(figures, check_not_zero(figures, poly), root)[0]


def comes_apart(figures, poly):
    """The roots of a poly that has as many unlike ones as its degree, else None."""
    poly = check_not_zero(figures, poly)
    roots = bare_roots(figures, poly)
    return roots if len(roots) == len(poly) - 1 else None


def parts_of(figures, poly):
    """The last number, the roots with their times, and the poly led by one that has no root."""
    poly = check_not_zero(figures, poly)
    rest = bare_led(figures, poly)
    couples = []
    for root in bare_roots(figures, poly):
        times, rest = divided_out(figures, rest, root)
        couples.append((root, times))
    return Parts(poly[-1], tuple(couples), rest)


def has_twice(figures, poly):
    """Whether the square of some poly of degree 1 or more divides the poly."""
    poly = check_not_zero(figures, poly)
    return len(bare_common(figures, poly, bare_slope(figures, poly))) > 1


class Parts:
    """lead times the product of (t - root) ** times for the couples of roots, times rest."""

    def __init__(self, lead, roots, rest):
        self.lead = lead
        self.roots = roots
        self.rest = rest
