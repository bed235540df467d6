"""Rings: filters over rows whose first entry stands behind the last one."""

from sparedproducts.errors import BadSize
from sparedproducts.filters import MOST_ENTRIES, check_row, sums_along
from sparedproducts.programs import is_side
from sparedproducts.remainders import remainder_program
from sparedproducts.solving import zero_row
from sparedproducts.tables import check_letters


def ring_poly(figures, results):
    """The poly t ** results - 1, whose rule rows repeat after that many entries."""
    if not is_side(figures, results):
        raise BadSize()
    return (figures.negative(figures.one),) + zero_row(figures, results - 1) + (figures.one,)


def ring_filter(figures, taps, row):
    """The results of the filter of two taps over the ring, as many as the row has entries."""
    taps = check_letters(figures, taps, 2, "taps")
    row = check_row(figures, row, 1, MOST_ENTRIES, "row")
    return sums_along(figures, taps, row + row[:1])


def ring_program(figures, results):
    """The program of the square block of the ring poly."""
    return remainder_program(figures, ring_poly(figures, results))
