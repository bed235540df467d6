"""Rows of integers in the place of rows of numbers: long fractions are brought to lowest terms only where needed."""

from math import gcd

from sparedproducts.ratios import in_lowest_terms


def over_one_bottom(row):
    """Integers and one bottom for all of them, the least one, for a row of ratios."""
    bottom = 1
    for _, part in row:
        bottom = bottom * part // gcd(bottom, part)
    return [top * (bottom // part) for top, part in row], bottom


def content_of(wholes):
    """The greatest common divisor of all integers, 0 if there is none but 0."""
    content = 0
    for whole in wholes:
        content = gcd(content, whole)
    return content


def in_low_terms(wholes):
    """The integers without a common divisor."""
    content = content_of(wholes)
    return [whole // content for whole in wholes] if content > 1 else wholes


def in_proportion(wholes, one, other):
    """The integers divided by one and multiplied by other, as ratios."""
    return tuple([in_lowest_terms(whole * other, one) for whole in wholes])


def whole_row(figures, row):
    """Integers in proportion to a row of numbers: without a common divisor, or rests by the prime."""
    if figures.prime != 0:
        return list(row)
    return in_low_terms(over_one_bottom(row)[0])


def row_of_wholes(figures, wholes, lead):
    """The integers divided by one of them, as a row of numbers."""
    if figures.prime == 0:
        return in_proportion(wholes, lead, 1)
    undone = figures.over(figures.one, lead)
    return tuple([figures.times(undone, whole) for whole in wholes])


def less_wholes(figures, row, other, column):
    """Integers in proportion to the row less what makes it zero in the column, by a row that is not zero there."""
    divisor = gcd(row[column], other[column])
    factor = other[column] // divisor
    times = row[column] // divisor
    made = [factor * whole - times * less for whole, less in zip(row, other)]
    if figures.prime != 0:
        return [whole % figures.prime for whole in made]
    return in_low_terms(made)


def summed_wholes(one, other):
    """The sum of the products of two rows of integers, number by number."""
    return sum([left * right for left, right in zip(one, other)])
