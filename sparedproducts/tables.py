"""Checks of tables and of numbers for letters."""

from sparedproducts.errors import BadLetters, BadTable
from sparedproducts.ratios import is_sequence

MOST_ROWS = 5


def fits_count(many, due):
    """Whether a count is the due one, or any that a pair may have if none is due."""
    if due is None:
        return 1 <= many <= MOST_ROWS
    return many == due


def check_table(figures, table, rows=None, columns=None):
    """The table as a tuple of tuples of numbers."""
    if not is_sequence(table) or not fits_count(len(table), rows):
        raise BadTable(0, "rows")
    checked = []
    due = columns
    for index, row in enumerate(table):
        if not is_sequence(row) or not fits_count(len(row), due):
            raise BadTable(index, "columns")
        due = len(row)
        if not all_are_numbers(figures, row):
            raise BadTable(index, "number")
        checked.append(tuple(row))
    return tuple(checked)


def all_are_numbers(figures, row):
    """Whether each entry of a sequence is a number."""
    return all([figures.is_number(entry) for entry in row])


def check_letters(figures, numbers, many, what):
    """The numbers as a tuple of exactly many numbers."""
    if not is_sequence(numbers):
        raise BadLetters(what, 0)
    for index, number in enumerate(numbers[:many]):
        if not figures.is_number(number):
            raise BadLetters(what, index)
    if len(numbers) != many:
        raise BadLetters(what, min(len(numbers), many))
    return tuple(numbers)
