"""Ratios: fractions in lowest terms, as tuples (top, bottom) with a bottom of 1 or more."""

from math import gcd

from sparedproducts.errors import BadRatio, DividedByNought


def is_whole(thing, low=None, high=None):
    """Whether the thing is an integer within the bounds that are not None."""
    if not isinstance(thing, int) or isinstance(thing, bool):
        return False
    return (low is None or thing >= low) and (high is None or thing <= high)


def is_sequence(thing):
    """Whether the thing is a list or a tuple."""
    return isinstance(thing, (list, tuple))


def common_divisor(one, other):
    """The greatest common divisor of two integers; 0 if both are 0."""
    return gcd(one, other)


def is_ratio(thing):
    """Whether the thing is a tuple (top, bottom) in lowest terms."""
    if not isinstance(thing, tuple) or len(thing) != 2:
        return False
    top, bottom = thing
    return is_whole(top) and is_whole(bottom, 1) and gcd(top, bottom) == 1


def make_ratio(top, bottom=1):
    """Top over bottom in lowest terms."""
    if not is_whole(top):
        raise BadRatio("top")
    if not is_whole(bottom) or bottom == 0:
        raise BadRatio("bottom")
    return in_lowest_terms(top, bottom)


def in_lowest_terms(top, bottom):
    """The ratio of two integers, the bottom not 0, without checks."""
    divisor = gcd(top, bottom)
    if bottom < 0:
        divisor = -divisor
    return (top // divisor, bottom // divisor)


def ratio_plus(one, other):
    """The sum of two ratios."""
    return in_lowest_terms(one[0] * other[1] + other[0] * one[1], one[1] * other[1])


def ratio_minus(one, other):
    """The first ratio less the second."""
    return in_lowest_terms(one[0] * other[1] - other[0] * one[1], one[1] * other[1])


def ratio_times(one, other):
    """The product of two ratios."""
    return in_lowest_terms(one[0] * other[0], one[1] * other[1])


def ratio_over(one, other):
    """The first ratio divided by the second."""
    if other[0] == 0:
        raise DividedByNought()
    return in_lowest_terms(one[0] * other[1], one[1] * other[0])


def ratio_compare(one, other):
    """-1, 0 or 1 as one is less than, equal to or greater than other."""
    left = one[0] * other[1]
    right = other[0] * one[1]
    if left == right:
        return 0
    return -1 if left < right else 1
