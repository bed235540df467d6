"""Chains of columns: the lying blocks of a pair in plain form, and by flipped tables the standing ones.

In plain form the first table has one on the first places of the diagonal, as many as its rank, and zero elsewhere.
The rank must be the greatest of all mixes. The second table has four parts: inner above and to the left, inlets to
the right of it, outlets below it, and nothing else. A chain of size e is x_0 .. x_e with second x_0 = 0,
first x_i = second x_(i + 1) and first x_e = 0; shifted chains and sums of chains are chains again. A chain is told by
its tails s_0 .. s_e, the numbers of each column behind the inner ones: the sum of inner ** k inlets s_k is zero.
"""

from sparedproducts.solving import beside_unit, column_led, flipped_table, nothing_rows, reduced_table
from sparedproducts.solving import row_sum, solved_letters, table_times, unit_row, zero_row


class Plain:
    """A pair of tables led to plain form by left and right."""

    def __init__(self, left, right, second, rank):
        self.left = left
        self.right = right
        self.second = second
        self.rank = rank
        self.inner = tuple([row[:rank] for row in second[:rank]])
        self.inlets = tuple([tuple([row[column] for row in second[:rank]])
                             for column in range(rank, len(right))])
        self.outlets = tuple([row[:rank] for row in second[rank:]])


def plain_form(figures, first, second):
    """The plain form of two tables of one size; the first one has the greatest rank of all mixes."""
    wide = len(first[0])
    reduced, leading = reduced_table(figures, beside_unit(figures, first))
    leading = [column for column in leading if column < wide]
    left = tuple([row[wide:] for row in reduced])
    others = [column for column in range(wide) if column not in leading]
    columns = [unit_row(figures, wide, column) for column in leading]
    columns = columns + [nothing_column(figures, reduced, leading, column, wide) for column in others]
    right = flipped_table(columns)
    return Plain(left, right, table_times(figures, table_times(figures, left, second), right), len(leading))


def nothing_column(figures, reduced, leading, column, wide):
    """The column with one at that place that the reduced table leads to zero."""
    made = list(unit_row(figures, wide, column))
    for row, lead in zip(reduced, leading):
        made[lead] = figures.negative(row[column])
    return tuple(made)


def led_chain(figures, table, column, many):
    """The column and what the table makes of it time after time, many columns in all."""
    chain = [column]
    while len(chain) < many:
        chain.append(column_led(figures, table, chain[-1]))
    return tuple(chain)


def padded_row(figures, ahead, row, behind):
    """The row between that many zeros."""
    return zero_row(figures, ahead) + row + zero_row(figures, behind)


def shifted_rows(figures, tails, size):
    """The tails of a chain of a lesser size, shifted in all ways to a chain of the size, each as one row."""
    row = tuple([number for tail in tails for number in tail])
    wide = len(tails[0])
    room = size + 1 - len(tails)
    return [padded_row(figures, wide * shift, row, wide * (room - shift)) for shift in range(room + 1)]


def parted_row(row, wide):
    """The row as a tuple of tails of that length."""
    return tuple([row[place:place + wide] for place in range(0, len(row), wide)])


def new_tails(figures, rows, chains, size):
    """Those of the rows, the tails of all chains of the size, that no sum of shifted known chains gives."""
    known = [row for tails in chains for row in shifted_rows(figures, tails, size)]
    leading = reduced_table(figures, flipped_table(known + list(rows)))[1]
    wide = len(rows[0]) // (size + 1)
    return [parted_row(rows[place - len(known)], wide) for place in leading if place >= len(known)]


def least_tails(figures, inner, inlets):
    """The tails of chains of the least sizes, ascending, from which all are made by shifts and sums."""
    chains = []
    table = ()
    columns = inlets
    size = 0
    while len(chains) < len(inlets):
        table = table + columns
        rows = nothing_rows(figures, table)
        if len(rows) > 0:
            chains = chains + new_tails(figures, rows, chains, size)
        columns = tuple([column_led(figures, inner, column) for column in columns])
        size += 1
    return tuple(chains)


def least_chains(figures, inner, inlets):
    """The chains of the least sizes, ascending, whole columns in the place of tails."""
    return tuple([whole_chain(figures, inner, inlets, tails) for tails in least_tails(figures, inner, inlets)])


def whole_chain(figures, inner, inlets, tails):
    """The columns of a chain of these tails."""
    ahead = zero_row(figures, len(inner))
    made = []
    for tail in tails[::-1]:
        made.append(ahead + tail)
        ahead = row_sum(figures, column_led(figures, inner, ahead), column_led(figures, flipped_table(inlets), tail))
    return tuple(made[::-1])


def chain_partners(figures, inner, outlets, chains):
    """For each chain of rows of the flipped tables a couple (near, far) of tuples of columns.

    The products of the rows and the far columns are those of a unit table, all chains taken together; first leads
    near column i to far column i, and second leads it to far column i + 1.
    """
    rows = [row for chain in chains for row in chain]
    told = [row[:len(inner)] for chain in chains for row in chain[:-1]]
    partners = []
    at = 0
    told_at = 0
    for chain in chains:
        size = len(chain) - 1
        if size == 0:
            partners.append(((), (solved_letters(figures, rows, unit_row(figures, len(rows), at)),)))
        else:
            start = solved_letters(figures, told, unit_row(figures, len(told), told_at))
            partners.append(started_partner(figures, inner, outlets, start, size))
        at += size + 1
        told_at += size
    return tuple(partners)


def started_partner(figures, inner, outlets, start, size):
    """The couple (near, far) whose first near column begins with the inner numbers of the start."""
    heads = led_chain(figures, inner, start, size + 1)
    tail = zero_row(figures, len(outlets))
    far = [head + tail for head in heads[:size]]
    return heads[:size], tuple(far + [heads[size] + column_led(figures, outlets, heads[size - 1])])
