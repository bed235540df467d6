"""Tables of numbers: sums, products, reduced tables and what follows from them; nothing is checked."""

from sparedproducts.errors import NotOnce
from sparedproducts.ratios import in_lowest_terms
from sparedproducts.wholes import less_wholes, over_one_bottom, row_of_wholes, summed_wholes, whole_row


def zero_row(figures, many):
    """A tuple of that many zeros."""
    return (figures.zero,) * many


def unit_row(figures, many, place):
    """A tuple of zeros but for a one at the place."""
    return zero_row(figures, place) + (figures.one,) + zero_row(figures, many - place - 1)


def unit_table(figures, size):
    """The square table with one on the diagonal and zero elsewhere."""
    return tuple([unit_row(figures, size, place) for place in range(size)])


def row_sum(figures, one, other):
    """Two rows of one length added number by number."""
    return tuple([figures.plus(left, right) for left, right in zip(one, other)])


def row_scaled(figures, number, row):
    """Each number of the row times the number."""
    return tuple([figures.times(number, entry) for entry in row])


def summed_products(figures, one, other):
    """The sum of the products of two rows, number by number."""
    return summed_lines(figures, whole_line(figures, one), whole_line(figures, other))


def whole_line(figures, row):
    """A row of numbers as integers and one bottom for all of them."""
    return (row, 1) if figures.prime != 0 else over_one_bottom(row)


def summed_lines(figures, one, other):
    """The sum of the products of two rows, each of them as integers and a bottom."""
    total = summed_wholes(one[0], other[0])
    if figures.prime != 0:
        return total % figures.prime
    return in_lowest_terms(total, one[1] * other[1])


def column_led(figures, table, column):
    """The product of a table and a column, both as tuples."""
    line = whole_line(figures, column)
    return tuple([summed_lines(figures, whole_line(figures, row), line) for row in table])


def table_times(figures, left, right):
    """The product of two tables, rows by columns."""
    lines = [whole_line(figures, row) for row in flipped_table(right)]
    return tuple([row_times(figures, whole_line(figures, row), lines) for row in left])


def row_times(figures, line, lines):
    """The sums of the products of one row and each of some others, all as integers and a bottom."""
    return tuple([summed_lines(figures, line, other) for other in lines])


def table_plus(figures, one, other):
    """The sum of two tables, cell by cell."""
    return tuple([row_sum(figures, left, right) for left, right in zip(one, other)])


def table_scaled(figures, number, table):
    """Each cell times the number."""
    return tuple([row_scaled(figures, number, row) for row in table])


def flipped_table(table):
    """The table with rows and columns exchanged."""
    if len(table) == 0:
        return ()
    return tuple([tuple([row[column] for row in table]) for column in range(len(table[0]))])


def first_filled(rows, start, column):
    """The first row of integers from start on that is not zero in the column, or None."""
    for index in range(start, len(rows)):
        if rows[index][column] != 0:
            return index
    return None


def cleared_rows(figures, rows, at, column):
    """The rows of integers, all but the one at that place made zero in the column."""
    leader = rows[at]
    return [row if index == at or row[column] == 0 else less_wholes(figures, row, leader, column)
            for index, row in enumerate(rows)]


def reduced_table(figures, table):
    """The reduced table and the ascending tuple of its leading columns."""
    rows = [whole_row(figures, row) for row in table]
    leading = []
    wide = 0 if len(rows) == 0 else len(rows[0])
    for column in range(wide):
        at = len(leading)
        found = first_filled(rows, at, column)
        if found is not None:
            rows[at], rows[found] = rows[found], rows[at]
            rows = cleared_rows(figures, rows, at, column)
            leading.append(column)
    made = [row_of_wholes(figures, row, row[lead]) for row, lead in zip(rows, leading)]
    return tuple(made + [zero_row(figures, wide)] * (len(rows) - len(made))), tuple(leading)


def rank_of(figures, table):
    """The number of leading columns of the reduced table."""
    return len(reduced_table(figures, table)[1])


def beside_unit(figures, table):
    """The table, each row continued by that of the unit table."""
    unit = unit_table(figures, len(table))
    return tuple([tuple(row) + more for row, more in zip(table, unit)])


def undone_table(figures, table):
    """The table whose product with this one is the unit table."""
    size = len(table)
    if size > 0 and len(table[0]) != size:
        raise NotOnce()
    reduced, leading = reduced_table(figures, beside_unit(figures, table))
    if leading != tuple(range(size)):
        raise NotOnce()
    return tuple([row[size:] for row in reduced])


def nothing_rows(figures, table):
    """The reduced rows whose product with the table is all zero."""
    if len(table) == 0:
        return ()
    wide = len(table[0])
    # The rows whose table part is zero keep, in the unit part, the sums that made them so.
    reduced, leading = reduced_table(figures, beside_unit(figures, table))
    return tuple([row[wide:] for row, lead in zip(reduced, leading) if lead >= wide])


def solved_letters(figures, table, column):
    """Numbers whose sums with the rows give the column, zero where not leading; None if there are none."""
    wide = len(table[0])
    joined = [tuple(row) + (number,) for row, number in zip(table, column)]
    reduced, leading = reduced_table(figures, joined)
    if wide in leading:
        return None
    letters = [figures.zero] * wide
    for row, lead in zip(reduced, leading):
        letters[lead] = row[wide]
    return tuple(letters)
