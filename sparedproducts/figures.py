"""Figures: the numbers in use, all fractions or the rests by a prime."""

from sparedproducts.errors import BadFigures, BadNumber, DividedByNought
from sparedproducts.ratios import is_ratio, is_whole
from sparedproducts.ratios import ratio_compare, ratio_minus, ratio_over, ratio_plus, ratio_times

OFFERED = (0, 2, 3, 5, 7, 11, 13)


def undone_rest(number, prime):
    """The rest whose product with the number has the rest 1."""
    for rest in range(1, prime):
        if number * rest % prime == 1:
            return rest
    raise DividedByNought()


class Figures:
    """Fractions as ratios if the prime is 0, else the rests 0 to prime - 1 as integers."""

    def __init__(self, prime):
        if not is_whole(prime) or prime not in OFFERED:
            raise BadFigures(prime)
        self.prime = prime
        self.zero = (0, 1) if prime == 0 else 0
        self.one = (1, 1) if prime == 0 else 1

    def __eq__(self, other):
        return isinstance(other, Figures) and self.prime == other.prime

    def plus(self, one, other):
        """The sum of two numbers."""
        if self.prime == 0:
            return ratio_plus(one, other)
        return (one + other) % self.prime

    def minus(self, one, other):
        """The first number less the second."""
        if self.prime == 0:
            return ratio_minus(one, other)
        return (one - other) % self.prime

    def times(self, one, other):
        """The product of two numbers."""
        if self.prime == 0:
            return ratio_times(one, other)
        return one * other % self.prime

    def over(self, one, other):
        """The first number divided by the second."""
        if self.prime == 0:
            return ratio_over(one, other)
        return one * undone_rest(other, self.prime) % self.prime

    def negative(self, one):
        """The number with the opposite sign."""
        if self.prime == 0:
            return (-one[0], one[1])
        return -one % self.prime

    def compare(self, one, other):
        """-1, 0 or 1: fractions by their value, rests as integers."""
        if self.prime == 0:
            return ratio_compare(one, other)
        if one == other:
            return 0
        return -1 if one < other else 1

    def whole_number(self, many):
        """The number of an integer."""
        if self.prime == 0:
            return (many, 1)
        return many % self.prime

    def number_of(self, ratio):
        """The number of a ratio."""
        if self.prime == 0:
            return ratio
        top, bottom = ratio
        if bottom % self.prime == 0:
            raise BadNumber()
        return self.over(top % self.prime, bottom % self.prime)

    def is_number(self, thing):
        """Whether any thing is a number of these figures."""
        if self.prime == 0:
            return is_ratio(thing)
        return is_whole(thing, 0, self.prime - 1)

    def all_numbers(self):
        """All rests in ascending order; nothing with fractions, which have no end."""
        return tuple(range(self.prime))
