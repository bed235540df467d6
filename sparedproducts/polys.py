"""Polys checked and reckoned."""

from sparedproducts.barepolys import bare_common, bare_led, bare_minus, bare_over, bare_plus, bare_slope
from sparedproducts.barepolys import bare_times, bare_value, bare_ways, straight_poly
from sparedproducts.errors import BadPoly
from sparedproducts.ratios import is_sequence
from sparedproducts.solving import unit_row, zero_row

MOST_NUMBERS = 12
MOST_DEGREE = 5


def check_poly(figures, poly):
    """The poly as a tuple."""
    if not is_sequence(poly) or len(poly) > MOST_NUMBERS:
        raise BadPoly(0, "many")
    for index, number in enumerate(poly):
        if not figures.is_number(number):
            raise BadPoly(index, "number")
    if len(poly) > 0 and poly[-1] == figures.zero:
        raise BadPoly(len(poly) - 1, "last")
    return tuple(poly)


def check_led_poly(figures, poly, low, high):
    """The poly, led by one and of a degree within the bounds, as a tuple."""
    checked = check_poly(figures, poly)
    degree = len(checked) - 1
    if degree < low or degree > high:
        raise BadPoly(0, "degree")
    if degree < 0:
        raise BadPoly(0, "led")
    if checked[-1] != figures.one:
        raise BadPoly(degree, "led")
    return checked


def check_two_polys(figures, one, other):
    """Both polys as tuples."""
    one = check_poly(figures, one)
    return one, check_poly(figures, other)


def poly_plus(figures, one, other):
    """The sum of two polys."""
    one, other = check_two_polys(figures, one, other)
    return bare_plus(figures, one, other)


def poly_minus(figures, one, other):
    """The first poly less the second."""
    one, other = check_two_polys(figures, one, other)
    return bare_minus(figures, one, other)


def poly_times(figures, one, other):
    """The product of two polys."""
    one, other = check_two_polys(figures, one, other)
    return bare_times(figures, one, other)


def led_by_one(figures, poly):
    """The poly divided by its last number; the zero poly stays."""
    return bare_led(figures, check_poly(figures, poly))


def value_at(figures, poly, number):
    """The number that the poly has at t = number."""
    return bare_value(figures, check_poly(figures, poly), number)


def slope_of(figures, poly):
    """The slope of the poly, without zeros at its end."""
    return bare_slope(figures, check_poly(figures, poly))


def poly_over(figures, one, other):
    """The quotient and the rest, whose degree is below that of the divisor."""
    one, other = check_two_polys(figures, one, other)
    return bare_over(figures, one, other)


def poly_common(figures, one, other):
    """The common divisor of greatest degree, led by one."""
    one, other = check_two_polys(figures, one, other)
    return bare_common(figures, one, other)


def poly_ways(figures, one, other):
    """(common, left, right) with left times one plus right times other equal to common."""
    one, other = check_two_polys(figures, one, other)
    return bare_ways(figures, one, other)


def poly_of_roots(figures, roots):
    """The product of t - root for all roots."""
    made = (figures.one,)
    for root in roots:
        made = bare_times(figures, made, straight_poly(figures, root))
    return made


def last_column(figures, poly):
    """The table whose own poly is the poly: ones below the diagonal, the poly in the last column."""
    poly = check_led_poly(figures, poly, 1, MOST_DEGREE)
    size = len(poly) - 1
    rows = []
    for place in range(size):
        many = size - 1
        ahead = zero_row(figures, many) if place == 0 else unit_row(figures, many, place - 1)
        rows.append(ahead + (figures.negative(poly[place]),))
    return tuple(rows)
