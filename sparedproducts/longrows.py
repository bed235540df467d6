"""Long rows: filters and products of polys by stretches, each of them by one use of a program."""

from sparedproducts.errors import BadSplit, BadTaps, NotSuch
from sparedproducts.filters import MOST_ENTRIES, check_row, filter_pair, filter_program
from sparedproducts.programs import is_number_row, is_right
from sparedproducts.ratios import is_sequence, is_whole
from sparedproducts.solving import row_sum, zero_row
from sparedproducts.tables import check_letters
from sparedproducts.turnedabout import turned_about

MOST_COUPLES = 12
MOST_SIZE = 4


class Long:
    """The results for a long row, and the number of products used."""

    def __init__(self, results, used):
        self.results = results
        self.used = used


class Stretch:
    """A stretch of a row: its first entry's index, its entries, and the results that are kept."""

    def __init__(self, at, entries, results):
        self.at = at
        self.entries = entries
        self.results = results


def check_filter(program):
    """The program is right for the filter pair of its columns."""
    if program.rows != program.columns + 1:
        raise NotSuch()
    if not is_right(filter_pair(program.figures, program.columns), program):
        raise NotSuch()


def filter_stretches(program, taps, row):
    """The stretches of the row, each begun at the last entry of the one before, with their results."""
    figures = program.figures
    taps = check_letters(figures, taps, 2, "taps")
    row = check_row(figures, row, 2, MOST_ENTRIES, "row")
    check_filter(program)
    about = turned_about(program, by="y")
    many = program.columns
    for at in range(0, len(row) - 1, many):
        entries = filled_row(figures, row[at:at + many + 1], many + 1)
        results = about(taps, entries)
        yield Stretch(at, entries, results[:len(row) - 1 - at])


def filled_row(figures, row, many):
    """The row continued by zeros to that many numbers."""
    return row + zero_row(figures, many - len(row))


def run_filter(program, taps, row):
    """The results of the filter of two taps over the row, stretch by stretch."""
    results = ()
    used = 0
    for stretch in filter_stretches(program, taps, row):
        results = results + stretch.results
        used = used + len(program)
    return Long(results, used)


def run_times(program, taps, numbers):
    """The numbers times the poly of the taps, part by part, the parts' results added where they overlap."""
    figures = program.figures
    taps = check_letters(figures, taps, 2, "taps")
    numbers = check_row(figures, numbers, 1, MOST_ENTRIES, "numbers")
    check_filter(program)
    about = turned_about(program, by="x")
    many = program.columns
    results = zero_row(figures, 1)
    used = 0
    for at in range(0, len(numbers), many):
        made = about(taps, filled_row(figures, numbers[at:at + many], many))
        results = results[:at] + row_sum(figures, results[at:], made[:1]) + made[1:]
        used = used + len(program)
    return Long(results[:len(numbers) + 1], used)


def split_of(results, most):
    """Sizes of stretches, as many of the greatest size as fit, whose sum is the number of results."""
    if not is_whole(results, 1, MOST_ENTRIES) or not is_whole(most, 1, MOST_SIZE):
        raise BadSplit()
    left = results % most
    sizes = (most,) * (results // most)
    return sizes + (left,) if left > 0 else sizes


def check_sizes_of_split(figures, sizes, total):
    """Sizes that stretches may have, whose sum is the total."""
    most = MOST_SIZE if figures.prime == 0 else min(MOST_SIZE, figures.prime - 1)
    if not is_sequence(sizes) or not all([is_whole(size, 1, most) for size in sizes]) or sum(sizes) != total:
        raise BadSplit()


def run_split(figures, taps, row, sizes):
    """The results of the filter of two taps by stretches of these sizes in order."""
    taps = check_letters(figures, taps, 2, "taps")
    row = check_row(figures, row, 2, MOST_ENTRIES, "row")
    check_sizes_of_split(figures, sizes, len(row) - 1)
    results = ()
    used = 0
    for size in sizes:
        program = filter_program(figures, size)
        about = turned_about(program, by="y")
        at = len(results)
        results = results + about(taps, row[at:at + size + 1])
        used = used + len(program)
    return Long(results, used)


def check_couples(figures, couples):
    """A sequence of couples of numbers as a tuple of tuples."""
    if not is_sequence(couples) or len(couples) > MOST_COUPLES:
        raise BadTaps(0)
    for index, couple in enumerate(couples):
        if not is_number_row(figures, couple, 2):
            raise BadTaps(index)
    return tuple([tuple(couple) for couple in couples])


def filter_cascade(program, couples, row):
    """The results of the filters of all couples one behind another."""
    couples = check_couples(program.figures, couples)
    row = check_row(program.figures, row, len(couples) + 1, MOST_ENTRIES, "row")
    check_filter(program)
    used = 0
    for couple in couples:
        made = run_filter(program, couple, row)
        row = made.results
        used = used + made.used
    return Long(row, used)
