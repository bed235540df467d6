"""Polys of integers: the common divisors of polys in fractions without long fractions in between.

A line is a tuple of polys of integers, the first of them being divided and the others following each step.
"""

from math import gcd

from sparedproducts.wholes import content_of, in_low_terms, in_proportion, over_one_bottom


def whole_poly(poly):
    """Integers without a common divisor, the last one above 0, in proportion to a poly in fractions."""
    wholes = in_low_terms(over_one_bottom(poly)[0])
    if len(wholes) > 0 and wholes[-1] < 0:
        return [-whole for whole in wholes]
    return wholes


def trimmed_wholes(wholes):
    """The integers without zeros at the end."""
    many = len(wholes)
    while many > 0 and wholes[many - 1] == 0:
        many -= 1
    return wholes[:many]


def wholes_less(one, factor, other, times, shift):
    """factor times one, less times t ** shift times the other poly."""
    made = [factor * whole for whole in one] + [0] * (len(other) + shift - len(one))
    for place, whole in enumerate(other):
        made[place + shift] = made[place + shift] - times * whole
    return trimmed_wholes(made)


def rest_line(line, other):
    """The rest of the line by the other one, without a common divisor."""
    lead = other[0][-1]
    while len(line[0]) >= len(other[0]):
        divisor = gcd(line[0][-1], lead)
        factor = lead // divisor
        times = line[0][-1] // divisor
        shift = len(line[0]) - len(other[0])
        line = [wholes_less(one, factor, less, times, shift) for one, less in zip(line, other)]
    # Without this the integers would double their length at each step.
    content = content_of([content_of(wholes) for wholes in line])
    return [[whole // content for whole in wholes] for wholes in line] if content > 1 else line


def common_line(line, other):
    """The line of the common divisor of the first polys of two lines."""
    while len(other[0]) > 1:
        line, other = other, rest_line(line, other)
    return line if len(other[0]) == 0 else other


def fraction_common(one, other):
    """The common divisor, led by one, of two polys in fractions that are not both the zero poly."""
    common = common_line([whole_poly(one)], [whole_poly(other)])[0]
    return in_proportion(common, common[-1], 1)


def fraction_ways(one, other):
    """The common divisor and the two factors that give it, for polys in fractions that are not zero."""
    ahead = whole_poly(one)
    behind = whole_poly(other)
    common, left, right = common_line([ahead, [1], []], [behind, [], [1]])
    lead = common[-1]
    left = in_proportion(left, lead * one[-1][0], ahead[-1] * one[-1][1])
    right = in_proportion(right, lead * other[-1][0], behind[-1] * other[-1][1])
    return in_proportion(common, lead, 1), left, right
