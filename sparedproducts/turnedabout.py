"""Programs turned about: the same products with the letters in other places."""

from sparedproducts.errors import BadSide
from sparedproducts.programs import Program
from sparedproducts.solving import column_led, flipped_table, row_scaled, row_sum, summed_products
from sparedproducts.solving import table_plus, table_scaled, zero_row
from sparedproducts.tables import check_letters


class About:
    """The products ((c, d), one, other) of a program: taps meet c and d, numbers meet one, other is the result."""

    def __init__(self, figures, by, letters, results, products):
        self.figures = figures
        self.by = by
        self.letters = letters
        self.results = results
        self.products = products

    def __call__(self, taps, letters):
        figures = self.figures
        taps = check_letters(figures, taps, 2, "taps")
        letters = check_letters(figures, letters, self.letters, "letters")
        total = zero_row(figures, self.results)
        for couple, one, other in self.products:
            tapped = summed_products(figures, couple, taps)
            made = figures.times(tapped, summed_products(figures, one, letters))
            total = row_sum(figures, total, row_scaled(figures, made, other))
        return total

    def back(self):
        """The program that was turned about."""
        if self.by == "y":
            products = [(one, other) + couple for couple, one, other in self.products]
            return Program(self.figures, self.letters, self.results, products)
        products = [(other, one) + couple for couple, one, other in self.products]
        return Program(self.figures, self.results, self.letters, products)


def check_by(by):
    """The sides by which a program is turned about."""
    if by != "x" and by != "y":
        raise BadSide()


def turned_about(program, *, by="y"):
    """The program's products with taps and the letters of one side given, the results being those of the other."""
    check_by(by)
    if by == "y":
        products = [((first, second), left, right) for left, right, first, second in program]
        return About(program.figures, by, program.rows, program.columns, tuple(products))
    products = [((first, second), right, left) for left, right, first, second in program]
    return About(program.figures, by, program.columns, program.rows, tuple(products))


def about_plain(pair, by, taps, letters):
    """The same results from the tables of the pair."""
    figures = pair.figures
    check_by(by)
    taps = check_letters(figures, taps, 2, "taps")
    letters = check_letters(figures, letters, pair.rows if by == "y" else pair.columns, "letters")
    first = table_scaled(figures, taps[0], pair.first)
    tapped = table_plus(figures, first, table_scaled(figures, taps[1], pair.second))
    return column_led(figures, flipped_table(tapped) if by == "y" else tapped, letters)
