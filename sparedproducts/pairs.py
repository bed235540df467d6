"""Pairs of tables of one size."""

from sparedproducts.errors import BadKept, BadPair, NotOnce, Unlike
from sparedproducts.ratios import is_sequence, is_whole
from sparedproducts.solving import flipped_table, rank_of, summed_products
from sparedproducts.solving import column_led, table_plus, table_scaled, table_times, zero_row
from sparedproducts.tables import MOST_ROWS, check_letters, check_table


def check_width(figures, rows, columns):
    """By a prime no pair has more rows or columns than the prime."""
    if figures.prime != 0 and max(rows, columns) > figures.prime:
        raise BadPair("wide")


def check_sizes(figures, rows, columns):
    """The sizes that the tables of a pair may have."""
    if not is_whole(rows, 1, MOST_ROWS) or not is_whole(columns, 1, MOST_ROWS):
        raise BadPair("size")
    check_width(figures, rows, columns)


def check_turning(figures, rows, columns, left, right):
    """The couple of the tables that turn a pair of this size."""
    left = check_table(figures, left, rows, rows)
    right = check_table(figures, right, columns, columns)
    if rank_of(figures, left) < rows or rank_of(figures, right) < columns:
        raise NotOnce()
    return left, right


def check_mix(figures, table):
    """The table of two by two that mixes the tables of a pair."""
    table = check_table(figures, table, 2, 2)
    if rank_of(figures, table) < 2:
        raise NotOnce()
    return table


def check_kept(places, many, what):
    """Ascending places below many, at least one."""
    if not is_sequence(places) or len(places) == 0:
        raise BadKept(what, 0)
    low = 0
    for index, place in enumerate(places):
        if not is_whole(place, low, many - 1):
            raise BadKept(what, index)
        low = place + 1
    return tuple(places)


def zero_pair(figures, rows, columns):
    """The pair of this size whose numbers are all 0."""
    check_sizes(figures, rows, columns)
    table = (zero_row(figures, columns),) * rows
    return Pair(figures, table, table)


class Pair:
    """Two tables of one size; the answers are the sums of x_i first(i, j) y_j and x_i second(i, j) y_j."""

    def __init__(self, figures, first, second):
        first = check_table(figures, first)
        second = check_table(figures, second)
        if len(first) != len(second) or len(first[0]) != len(second[0]):
            raise BadPair("size")
        check_width(figures, len(first), len(first[0]))
        self.figures = figures
        self.first = first
        self.second = second
        self.rows = len(first)
        self.columns = len(first[0])

    def __eq__(self, other):
        return (isinstance(other, Pair) and self.figures == other.figures
                and self.first == other.first and self.second == other.second)

    def turned(self, left, right):
        """The pair of left first right and left second right."""
        figures = self.figures
        left, right = check_turning(figures, self.rows, self.columns, left, right)
        first = table_times(figures, table_times(figures, left, self.first), right)
        second = table_times(figures, table_times(figures, left, self.second), right)
        return Pair(figures, first, second)

    def mixed(self, table):
        """The pair of a first + b second and c first + d second, for the table ((a, b), (c, d))."""
        made = [self._sum_of(one, other) for one, other in check_mix(self.figures, table)]
        return Pair(self.figures, made[0], made[1])

    def _sum_of(self, one, other):
        first = table_scaled(self.figures, one, self.first)
        second = table_scaled(self.figures, other, self.second)
        return table_plus(self.figures, first, second)

    def flipped(self):
        """The pair with rows for columns."""
        return Pair(self.figures, flipped_table(self.first), flipped_table(self.second))

    def beside(self, other):
        """Both pairs corner to corner."""
        if self.figures != other.figures:
            raise Unlike()
        check_sizes(self.figures, self.rows + other.rows, self.columns + other.columns)
        first = corner_to_corner(self.figures, self.first, other.first)
        second = corner_to_corner(self.figures, self.second, other.second)
        return Pair(self.figures, first, second)

    def cut_out(self, rows, columns):
        """The pair of the rows and columns that are kept."""
        rows = check_kept(rows, self.rows, "rows")
        columns = check_kept(columns, self.columns, "columns")
        return Pair(self.figures, kept_table(self.first, rows, columns), kept_table(self.second, rows, columns))

    def answers(self, left, right):
        """Both answers for numbers in the place of the letters."""
        figures = self.figures
        left = check_letters(figures, left, self.rows, "left")
        right = check_letters(figures, right, self.columns, "right")
        first = summed_products(figures, left, column_led(figures, self.first, right))
        second = summed_products(figures, left, column_led(figures, self.second, right))
        return first, second


def corner_to_corner(figures, one, other):
    """One table above and to the left of the other one, zero elsewhere."""
    ahead = zero_row(figures, len(one[0]))
    behind = zero_row(figures, len(other[0]))
    return tuple([row + behind for row in one] + [ahead + row for row in other])


def kept_table(table, rows, columns):
    """The cells of the rows and columns that are kept."""
    return tuple([tuple([table[row][column] for column in columns]) for row in rows])
