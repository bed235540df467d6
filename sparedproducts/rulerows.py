"""Rule rows: rows that a poly carries on, the filter over them, and those over which a filter is silent."""

from sparedproducts.blocks import check_square_poly
from sparedproducts.longrows import Long
from sparedproducts.points import powers_at
from sparedproducts.remainders import Lost, check_remainder, check_times, undo_taps
from sparedproducts.solving import summed_products
from sparedproducts.tables import check_letters
from sparedproducts.turnedabout import turned_about


def carried_on(figures, poly, first, many):
    """The first entries, many in all, of the rule row that begins so."""
    row = list(first)
    size = len(first)
    while len(row) < many:
        behind = row[len(row) - size:]
        row.append(figures.negative(summed_products(figures, poly[:size], behind)))
    return tuple(row[:many])


def rule_row(figures, poly, first, many):
    """The first entries of the rule row of the poly, many in all."""
    poly = check_square_poly(figures, poly)
    first = check_letters(figures, first, len(poly) - 1, "first")
    check_times(many)
    return carried_on(figures, poly, first, many)


def rule_filter(program, poly, taps, first, many):
    """The first results of the filter over the rule row, by one use of the program."""
    figures = program.figures
    poly = check_square_poly(figures, poly)
    taps = check_letters(figures, taps, 2, "taps")
    first = check_letters(figures, first, len(poly) - 1, "first")
    check_times(many)
    check_remainder(program, poly)
    about = turned_about(program, by="y")
    # The results are a rule row of the same poly, so the first of them tell all others.
    return Long(carried_on(figures, poly, about(taps, first), many), len(program))


def silent_row(figures, poly, taps):
    """The beginning of a rule row, not all 0, over which the filter has only results 0, or None."""
    made = undo_taps(figures, poly, taps)
    if not isinstance(made, Lost):
        return None
    low, high = taps
    # A couple (0, 0) is silent over every row, that of the root 0 too.
    root = figures.zero if high == figures.zero else figures.negative(figures.over(low, high))
    return powers_at(figures, root, len(made.numbers))
