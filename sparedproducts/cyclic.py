"""Square tables led to last columns: chains of columns v, C v, C C v .. that fill all places."""

from sparedproducts.barepolys import bare_common, bare_divides, bare_multiple, bare_quotient
from sparedproducts.chains import led_chain
from sparedproducts.solving import column_led, flipped_table, nothing_rows, reduced_table, row_scaled
from sparedproducts.solving import row_sum, solved_letters, unit_row, unit_table, zero_row


def order_of(figures, table, column):
    """The poly led by one of least degree that is zero at the table behind a column that is not all zero."""
    chain = led_chain(figures, table, column, len(table) + 1)
    reduced, leading = reduced_table(figures, flipped_table(chain))
    degree = len(leading)
    return tuple([figures.negative(row[degree]) for row in reduced[:degree]]) + (figures.one,)


def poly_led(figures, poly, table, column):
    """The column led by what the poly is at the table."""
    made = zero_row(figures, len(column))
    for number in poly[::-1]:
        made = row_sum(figures, column_led(figures, table, made), row_scaled(figures, number, column))
    return made


def own_share(figures, one, other):
    """The greatest divisor of one that has no divisor in common with other less what one has of it."""
    missing = bare_quotient(figures, other, bare_common(figures, one, other))
    common = bare_common(figures, one, missing)
    while len(common) > 1:
        one = bare_quotient(figures, one, common)
        common = bare_common(figures, one, missing)
    return one


def joined_orders(figures, table, one, other):
    """A couple (order, column) whose order is the common multiple of the orders of two couples."""
    if bare_divides(figures, other[0], one[0]):
        return one
    multiple = bare_multiple(figures, one[0], other[0])
    share = own_share(figures, one[0], other[0])
    # Both shares are unlike, so the orders of the two columns multiply.
    more = bare_quotient(figures, multiple, share)
    left = poly_led(figures, bare_quotient(figures, one[0], share), table, one[1])
    right = poly_led(figures, bare_quotient(figures, other[0], more), table, other[1])
    return multiple, row_sum(figures, left, right)


def greatest_order(figures, table, basis):
    """A couple (order, column) of the columns' sums whose order all others divide."""
    found = (order_of(figures, table, basis[0]), basis[0])
    for column in basis[1:]:
        if len(found[0]) > len(basis):
            return found
        found = joined_orders(figures, table, found, (order_of(figures, table, column), column))
    return found


def staying_basis(figures, table, basis, chain):
    """Columns that fill, beside the chain, the sums of the basis, and are led to their own sums."""
    many = len(chain)
    row = solved_letters(figures, chain, unit_row(figures, many, many - 1))
    rows = led_chain(figures, flipped_table(table), row, many)
    told = tuple([column_led(figures, rows, column) for column in basis])
    columns = flipped_table(basis)
    return tuple([column_led(figures, columns, letters) for letters in nothing_rows(figures, told)])


def cyclic_chains(figures, table):
    """Couples (poly, chain), each poly dividing the next; the chains together fill all columns."""
    basis = unit_table(figures, len(table))
    found = []
    while len(basis) > 0:
        order, column = greatest_order(figures, table, basis)
        chain = led_chain(figures, table, column, len(order) - 1)
        found.append((order, chain))
        basis = () if len(chain) == len(basis) else staying_basis(figures, table, basis, chain)
    return tuple(found[::-1])
