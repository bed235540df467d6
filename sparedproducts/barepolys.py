"""The reckoning with polys, without checks and without a limit of length.

A poly is a tuple of numbers, that of index k belonging to t ** k, and ends in a number that is not zero.
"""

from sparedproducts.errors import DividedByNought
from sparedproducts.solving import row_scaled, row_sum, zero_row
from sparedproducts.wholepolys import fraction_common, fraction_ways


def trimmed(figures, numbers):
    """The numbers as a tuple without zeros at the end."""
    many = len(numbers)
    while many > 0 and numbers[many - 1] == figures.zero:
        many -= 1
    return tuple(numbers[:many])


def lengthened(figures, poly, many):
    """The numbers of the poly and zeros, many in all."""
    return poly + zero_row(figures, many - len(poly))


def bare_plus(figures, one, other):
    """The sum of two polys."""
    many = max(len(one), len(other))
    return trimmed(figures, row_sum(figures, lengthened(figures, one, many), lengthened(figures, other, many)))


def bare_negative(figures, poly):
    """The poly with opposite signs."""
    return tuple([figures.negative(number) for number in poly])


def bare_minus(figures, one, other):
    """The first poly less the second."""
    return bare_plus(figures, one, bare_negative(figures, other))


def bare_times(figures, one, other):
    """The product of two polys."""
    if len(one) == 0 or len(other) == 0:
        return ()
    made = [figures.zero] * (len(one) + len(other) - 1)
    for place, number in enumerate(one):
        for shift, factor in enumerate(other):
            if number != figures.zero and factor != figures.zero:
                made[place + shift] = figures.plus(made[place + shift], figures.times(number, factor))
    return tuple(made)


def bare_led(figures, poly):
    """The poly divided by its last number; the zero poly stays."""
    if len(poly) == 0 or poly[-1] == figures.one:
        return poly
    return row_scaled(figures, figures.over(figures.one, poly[-1]), poly)


def less_row(figures, row, number, other):
    """The row less the number times the other row."""
    return [part if taken == figures.zero else figures.minus(part, figures.times(number, taken))
            for part, taken in zip(row, other)]


def bare_over(figures, one, other):
    """The quotient and the rest of a division."""
    if len(other) == 0:
        raise DividedByNought()
    degree = len(other) - 1
    undone = figures.over(figures.one, other[-1])
    rest = list(one)
    quotient = []
    while len(rest) > degree:
        number = figures.times(rest[-1], undone)
        at = len(rest) - 1 - degree
        rest = rest[:at] + less_row(figures, rest[at:-1], number, other[:-1])
        quotient.append(number)
    return trimmed(figures, quotient[::-1]), trimmed(figures, rest)


def bare_quotient(figures, one, other):
    """The quotient of a division."""
    return bare_over(figures, one, other)[0]


def bare_divides(figures, one, other):
    """Whether the first poly, which is not zero, divides the second."""
    return len(bare_over(figures, other, one)[1]) == 0


def bare_common(figures, one, other):
    """The common divisor of greatest degree, led by one."""
    if figures.prime == 0 and len(one) > 0:
        return fraction_common(one, other)
    while len(other) > 0:
        one, other = other, bare_over(figures, one, other)[1]
    return bare_led(figures, one)


def bare_multiple(figures, one, other):
    """The common multiple of least degree of two polys led by one."""
    return bare_times(figures, one, bare_quotient(figures, other, bare_common(figures, one, other)))


def bare_ways(figures, one, other):
    """The common divisor and two polys with left times one plus right times other equal to it."""
    if figures.prime == 0 and len(one) > 0 and len(other) > 0:
        return fraction_ways(one, other)
    ahead = (one, (figures.one,), ())
    behind = (other, (), (figures.one,))
    while len(behind[0]) > 0:
        quotient = bare_quotient(figures, ahead[0], behind[0])
        rest = tuple([bare_minus(figures, part, bare_times(figures, quotient, less))
                      for part, less in zip(ahead, behind)])
        ahead, behind = behind, rest
    if len(ahead[0]) == 0:
        return ahead
    undone = figures.over(figures.one, ahead[0][-1])
    return tuple([row_scaled(figures, undone, part) for part in ahead])


def bare_value(figures, poly, number):
    """The number that the poly has at t = number."""
    value = figures.zero
    for entry in poly[::-1]:
        value = figures.plus(figures.times(value, number), entry)
    return value


def bare_slope(figures, poly):
    """The poly whose number with index k is k + 1 times that with index k + 1."""
    return trimmed(figures, [figures.times(figures.whole_number(place + 1), number)
                             for place, number in enumerate(poly[1:])])


def straight_poly(figures, root):
    """The poly t - root."""
    return figures.negative(root), figures.one
