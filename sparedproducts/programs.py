"""Programs: tuples of products that give both answers of a pair."""

from sparedproducts.errors import BadPair, BadProgram, Unlike
from sparedproducts.pairs import Pair, check_mix, check_turning
from sparedproducts.ratios import is_sequence, is_whole
from sparedproducts.solving import column_led, flipped_table, row_scaled, row_sum, summed_products
from sparedproducts.solving import table_times, unit_row, zero_row
from sparedproducts.tables import MOST_ROWS, all_are_numbers, check_letters

MOST_PRODUCTS = 30


def is_side(figures, many):
    """Whether a pair may have that many rows or columns."""
    return is_whole(many, 1, MOST_ROWS) and (figures.prime == 0 or many <= figures.prime)


def is_number_row(figures, thing, many):
    """Whether the thing is a sequence of exactly many numbers."""
    return is_sequence(thing) and len(thing) == many and all_are_numbers(figures, thing)


def check_product(program, entry, index):
    """The product (u, v, c, d) as a tuple with tuples u and v."""
    figures = program.figures
    if not is_sequence(entry) or len(entry) != 4:
        raise BadProgram(index, "product")
    left, right, first, second = entry
    if not is_number_row(figures, left, program.rows):
        raise BadProgram(index, "left")
    if not is_number_row(figures, right, program.columns):
        raise BadProgram(index, "right")
    if not figures.is_number(first) or not figures.is_number(second):
        raise BadProgram(index, "number")
    return tuple(left), tuple(right), first, second


class Program:
    """Products (u, v, c, d) for pairs of rows by columns; each is added c and d times to the answers."""

    def __init__(self, figures, rows, columns, products):
        if not is_side(figures, rows):
            raise BadProgram(0, "rows")
        if not is_side(figures, columns):
            raise BadProgram(0, "columns")
        if not is_sequence(products) or len(products) > MOST_PRODUCTS:
            raise BadProgram(0, "many")
        self.figures = figures
        self.rows = rows
        self.columns = columns
        self.products = tuple([check_product(self, entry, index) for index, entry in enumerate(products)])

    def __eq__(self, other):
        return (isinstance(other, Program) and self.figures == other.figures and self.rows == other.rows
                and self.columns == other.columns and self.products == other.products)

    def __len__(self):
        return len(self.products)

    def __iter__(self):
        return iter(self.products)

    def run(self, left, right):
        """Both answers for numbers in the place of the letters, product by product."""
        figures = self.figures
        left = check_letters(figures, left, self.rows, "left")
        right = check_letters(figures, right, self.columns, "right")
        answers = zero_row(figures, 2)
        for across, down, first, second in self.products:
            one = summed_products(figures, across, left)
            made = figures.times(one, summed_products(figures, down, right))
            answers = row_sum(figures, answers, row_scaled(figures, made, (first, second)))
        return answers

    def pair(self):
        """The pair that the program is right for."""
        return Pair(self.figures, answer_table(self, 2), answer_table(self, 3))

    def led(self, left, right):
        """The program that is right for the turned pair."""
        figures = self.figures
        left, right = check_turning(figures, self.rows, self.columns, left, right)
        columns = flipped_table(right)
        products = [(column_led(figures, left, across), column_led(figures, columns, down), first, second)
                    for across, down, first, second in self.products]
        return Program(figures, self.rows, self.columns, products)

    def mixed(self, table):
        """The program that is right for the mixed pair."""
        table = check_mix(self.figures, table)
        products = [(left, right) + column_led(self.figures, table, (first, second))
                    for left, right, first, second in self.products]
        return Program(self.figures, self.rows, self.columns, products)

    def flipped(self):
        """The program that is right for the flipped pair."""
        products = [(right, left, first, second) for left, right, first, second in self.products]
        return Program(self.figures, self.columns, self.rows, products)

    def tidy(self):
        """The program without products that do nothing, both sums of each other one led by a one."""
        products = [tidy_product(self.figures, entry) for entry in self.products
                    if does_something(self.figures, entry)]
        return Program(self.figures, self.rows, self.columns, products)


def answer_table(program, place):
    """The sum of the tables of all products, each times the number at that place of the product."""
    figures = program.figures
    if len(program) == 0:
        return (zero_row(figures, program.columns),) * program.rows
    # One product of tables brings long fractions to lowest terms once for each cell, not at each step.
    left = flipped_table([row_scaled(figures, entry[place], entry[0]) for entry in program])
    return table_times(figures, left, [entry[1] for entry in program])


def first_not_zero(figures, row):
    """The first number of the row that is not zero, or None."""
    for number in row:
        if number != figures.zero:
            return number
    return None


def does_something(figures, entry):
    """Whether a product adds to an answer for some numbers of the letters."""
    left, right, first, second = entry
    sums = (left, right, (first, second))
    return all([first_not_zero(figures, row) is not None for row in sums])


def tidy_product(figures, entry):
    """The same product with both sums led by a one."""
    left, right, first, second = entry
    one = first_not_zero(figures, left)
    other = first_not_zero(figures, right)
    left = row_scaled(figures, figures.over(figures.one, one), left)
    right = row_scaled(figures, figures.over(figures.one, other), right)
    return (left, right) + row_scaled(figures, figures.times(one, other), (first, second))


class Cell:
    """A cell of the first (answer 0) or the second table (answer 1) of a pair."""

    def __init__(self, answer, row, column):
        self.answer = answer
        self.row = row
        self.column = column


def first_unlike_place(one, other):
    """The first (row, column) in which two tables of one size differ, or None."""
    for row, (left, right) in enumerate(zip(one, other)):
        for column, (number, told) in enumerate(zip(left, right)):
            if number != told:
                return row, column
    return None


def wrong_at(pair, program):
    """The first cell in which the program differs from the pair, or None."""
    if pair.figures != program.figures:
        raise Unlike()
    if pair.rows != program.rows or pair.columns != program.columns:
        raise BadPair("size")
    made = program.pair()
    for answer, (table, told) in enumerate(((pair.first, made.first), (pair.second, made.second))):
        place = first_unlike_place(table, told)
        if place is not None:
            return Cell(answer, place[0], place[1])
    return None


def is_right(pair, program):
    """Whether the program gives both answers of the pair for all numbers."""
    return wrong_at(pair, program) is None


def letters_where_wrong(pair, program):
    """Numbers of the letters for which the program gives another answer than the pair, or None."""
    cell = wrong_at(pair, program)
    if cell is None:
        return None
    left = unit_row(pair.figures, pair.rows, cell.row)
    right = unit_row(pair.figures, pair.columns, cell.column)
    return left, right
