"""Filters and products of polys, plainly, as couples of taps, and by programs of standing blocks."""

from sparedproducts.barepolys import trimmed
from sparedproducts.blocks import standing_pair
from sparedproducts.errors import BadRow
from sparedproducts.factors import parts_of
from sparedproducts.lyingprograms import standing_program
from sparedproducts.ratios import is_sequence
from sparedproducts.solving import row_scaled, summed_products, zero_row

MOST_ENTRIES = 60
MOST_TAPS = 13
MOST_APART = 12


def check_row(figures, row, low, high, what):
    """The row of low to high numbers as a tuple."""
    if not is_sequence(row) or not low <= len(row) <= high:
        raise BadRow(what, 0)
    for index, entry in enumerate(row):
        if not figures.is_number(entry):
            raise BadRow(what, index)
    return tuple(row)


def plain_filter(figures, taps, row):
    """The sums of the taps times the entries of the row from each entry on."""
    taps = check_row(figures, taps, 1, MOST_TAPS, "taps")
    return sums_along(figures, taps, check_row(figures, row, len(taps), MOST_ENTRIES, "row"))


def sums_along(figures, taps, row):
    """The results of the filter, as many as the row has entries for."""
    many = len(row) - len(taps) + 1
    return tuple([summed_products(figures, taps, row[place:place + len(taps)]) for place in range(many)])


def plain_times(figures, one, other):
    """The numbers of the product of two polys, zeros kept."""
    one = check_row(figures, one, 1, MOST_ENTRIES, "one")
    other = check_row(figures, other, 1, MOST_ENTRIES, "other")
    ends = zero_row(figures, len(one) - 1)
    # Each number of the product is a sum along the other row, with the numbers of the one from its end.
    return sums_along(figures, one[::-1], ends + other + ends)


def taps_apart(figures, taps):
    """Couples of taps, one less than there are taps, whose product is the taps, or None."""
    taps = check_row(figures, taps, 2, MOST_APART, "taps")
    zero, one = figures.zero, figures.one
    poly = trimmed(figures, taps)
    if len(poly) == 0:
        return ((zero, zero),) + ((one, zero),) * (len(taps) - 2)
    parts = parts_of(figures, poly)
    if len(parts.rest) > 1:
        return None
    couples = [(figures.negative(root), one) for root, times in parts.roots for _ in range(times)]
    couples = couples + [(one, zero)] * (len(taps) - len(poly))
    return (row_scaled(figures, parts.lead, couples[0]),) + tuple(couples[1:])


def filter_pair(figures, results):
    """The pair whose programs are filters of two taps with that many results, and products with a straight poly."""
    return standing_pair(figures, results)


def filter_program(figures, results, points=None):
    """The program of the filter pair at the points, with one product more than results."""
    return standing_program(figures, results, points)
