"""Remainders of products by a poly, by programs of its square block, and couples of taps undone."""

from sparedproducts.barepolys import bare_over, bare_value, lengthened, straight_poly, trimmed
from sparedproducts.blocks import check_square_poly, square_pair
from sparedproducts.errors import BadTimes, NotSuch
from sparedproducts.filters import MOST_ENTRIES, check_row
from sparedproducts.longrows import Long, check_couples
from sparedproducts.programs import is_right
from sparedproducts.ratios import is_whole
from sparedproducts.solving import row_scaled, unit_row
from sparedproducts.squareprograms import block_program
from sparedproducts.tables import check_letters
from sparedproducts.turnedabout import turned_about

MOST_TIMES = 60


class Undone:
    """The numbers that a couple multiplies to the remainder 1."""

    def __init__(self, numbers):
        self.numbers = numbers


class Lost:
    """Numbers, not all 0, that a couple multiplies to the remainder 0."""

    def __init__(self, numbers):
        self.numbers = numbers


def remainder_program(figures, poly):
    """The program of the square block of the poly."""
    return block_program(figures, ("square", poly))


def plain_remainder(figures, poly, numbers):
    """The numbers of the remainder of any poly by the poly, zeros kept."""
    poly = check_square_poly(figures, poly)
    numbers = check_row(figures, numbers, 1, MOST_ENTRIES, "numbers")
    rest = bare_over(figures, trimmed(figures, numbers), poly)[1]
    return lengthened(figures, rest, len(poly) - 1)


def check_remainder(program, poly):
    """The program is right for the square pair of the poly."""
    size = len(poly) - 1
    if program.rows != size or program.columns != size:
        raise NotSuch()
    if not is_right(square_pair(program.figures, poly), program):
        raise NotSuch()


def run_remainder(program, poly, taps, numbers):
    """The remainder of the couple's poly times the numbers, by one use of the program."""
    figures = program.figures
    poly = check_square_poly(figures, poly)
    taps = check_letters(figures, taps, 2, "taps")
    numbers = check_letters(figures, numbers, len(poly) - 1, "letters")
    check_remainder(program, poly)
    about = turned_about(program, by="x")
    return about(taps, numbers)


def times_one_by_one(program, couples, numbers):
    """The numbers multiplied by one couple after another, each time by one use of the program."""
    about = turned_about(program, by="x")
    for couple in couples:
        numbers = about(couple, numbers)
    return Long(numbers, len(program) * len(couples))


def times_all(program, poly, couples, numbers):
    """The remainder of the product of all couples and the numbers."""
    figures = program.figures
    poly = check_square_poly(figures, poly)
    couples = check_couples(figures, couples)
    numbers = check_letters(figures, numbers, len(poly) - 1, "letters")
    check_remainder(program, poly)
    return times_one_by_one(program, couples, numbers)


def check_times(times):
    """How many times a deed may be done."""
    if not is_whole(times, 0, MOST_TIMES):
        raise BadTimes()


def power_by_remainder(program, poly, taps, times):
    """The remainder of a power of the couple's poly."""
    figures = program.figures
    poly = check_square_poly(figures, poly)
    taps = check_letters(figures, taps, 2, "taps")
    check_times(times)
    check_remainder(program, poly)
    return times_one_by_one(program, (taps,) * times, unit_row(figures, len(poly) - 1, 0))


def undo_taps(figures, poly, taps):
    """The numbers that the couple multiplies to the remainder 1, or those that it multiplies to 0."""
    poly = check_square_poly(figures, poly)
    low, high = check_letters(figures, taps, 2, "taps")
    start = unit_row(figures, len(poly) - 1, 0)
    if high == figures.zero:
        if low == figures.zero:
            return Lost(start)
        return Undone(row_scaled(figures, figures.over(figures.one, low), start))
    root = figures.negative(figures.over(low, high))
    quotient = bare_over(figures, poly, straight_poly(figures, root))[0]
    value = bare_value(figures, poly, root)
    if value == figures.zero:
        return Lost(quotient)
    # The quotient times t - root is the poly less its value at the root.
    undone = figures.over(figures.negative(figures.one), figures.times(high, value))
    return Undone(row_scaled(figures, undone, quotient))
