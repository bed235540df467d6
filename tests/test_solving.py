"""Promise 1.03: tables solved [2.1] to [2.4]."""

import itertools
import unittest

from helpers import all_figures, drawer, drawn_invertible, drawn_number, drawn_table, long_number
from helpers import numbers, plain_times, raised, table
from sparedproducts.figures import Figures
from sparedproducts.solving import flipped_table, nothing_rows, rank_of, reduced_table, solved_letters
from sparedproducts.solving import table_plus, table_scaled, table_times, undone_table, unit_table


def zero_rows(figures, rows, columns):
    return ((figures.zero,) * columns,) * rows


def is_reduced(figures, made, leading):
    """The form of [2.2], read off the table alone."""
    found = []
    for at, row in enumerate(made):
        filled = [place for place, number in enumerate(row) if number != figures.zero]
        if not filled:
            if any(any(n != figures.zero for n in later) for later in made[at:]):
                return False
            break
        lead = filled[0]
        if found and lead <= found[-1] or row[lead] != figures.one:
            return False
        if sum(other[lead] != figures.zero for other in made) != 1:
            return False
        found.append(lead)
    return tuple(found) == leading


class SumsTest(unittest.TestCase):

    def test_unit_table(self):
        for figures in all_figures():
            self.assertEqual(unit_table(figures, 0), ())
            self.assertEqual(unit_table(figures, 1), ((figures.one,),))
            self.assertEqual(unit_table(figures, 3), table(figures, ((1, 0, 0), (0, 1, 0), (0, 0, 1))))

    def test_products_of_tables(self):
        draw = drawer(4)
        for figures in all_figures():
            for _ in range(20):
                rows, middle, columns = (draw.randint(1, 5) for _ in range(3))
                left = drawn_table(figures, draw, rows, middle)
                right = drawn_table(figures, draw, middle, columns)
                self.assertEqual(table_times(figures, left, right), plain_times(figures, left, right))
            self.assertEqual(table_times(figures, (), right), ())

    def test_sums_and_multiples(self):
        draw = drawer(5)
        for figures in all_figures():
            one, other = drawn_table(figures, draw, 3, 4), drawn_table(figures, draw, 3, 4)
            number = drawn_number(figures, draw)
            self.assertEqual(table_plus(figures, one, other), tuple(
                tuple(figures.plus(a, b) for a, b in zip(row, more)) for row, more in zip(one, other)))
            self.assertEqual(table_scaled(figures, number, one), tuple(
                tuple(figures.times(number, a) for a in row) for row in one))
            self.assertEqual(table_scaled(figures, figures.zero, one), zero_rows(figures, 3, 4))
            self.assertEqual(table_plus(figures, (), ()), ())
            self.assertEqual(table_scaled(figures, number, ()), ())

    def test_flipped(self):
        self.assertEqual(flipped_table(()), ())
        self.assertEqual(flipped_table(((1, 2, 3), (4, 5, 6))), ((1, 4), (2, 5), (3, 6)))
        self.assertEqual(flipped_table(((1, 2, 3),)), ((1,), (2,), (3,)))

    def test_long_numbers(self):
        figures = Figures(0)
        draw = drawer(6)
        left = tuple(tuple(long_number(draw) for _ in range(3)) for _ in range(3))
        right = tuple(tuple(long_number(draw) for _ in range(3)) for _ in range(3))
        made = table_times(figures, left, right)
        self.assertEqual(made, plain_times(figures, left, right))
        undone = undone_table(figures, made)
        self.assertEqual(plain_times(figures, undone, made), unit_table(figures, 3))
        self.assertEqual(undone, table_times(figures, undone_table(figures, right), undone_table(figures, left)))


class ReducedTest(unittest.TestCase):

    def test_known_ones(self):
        figures = Figures(0)
        made, leading = reduced_table(figures, table(figures, ((0, 2, 4, 1), (0, 1, 2, 1), (0, 3, 6, 0))))
        self.assertEqual(made, table(figures, ((0, 1, 2, 0), (0, 0, 0, 1), (0, 0, 0, 0))))
        self.assertEqual(leading, (1, 3))
        figures = Figures(3)
        self.assertEqual(reduced_table(figures, ((2, 1), (1, 2))), (((1, 2), (0, 0)), (0,)))
        self.assertEqual(reduced_table(figures, ((0, 0), (0, 0))), (((0, 0), (0, 0)), ()))

    def test_no_rows(self):
        for figures in all_figures():
            self.assertEqual(reduced_table(figures, ()), ((), ()))
            self.assertEqual(rank_of(figures, ()), 0)

    def test_drawn_ones(self):
        draw = drawer(7)
        for figures in all_figures():
            for _ in range(40):
                rows, columns = draw.randint(1, 6), draw.randint(1, 6)
                given = drawn_table(figures, draw, rows, columns, draw.random())
                made, leading = reduced_table(figures, given)
                self.assertEqual((len(made), len(made[0])), (rows, columns))
                self.assertTrue(is_reduced(figures, made, leading))
                self.assertEqual(rank_of(figures, given), len(leading))
                # The same sums: each row of one is a sum of the other's rows.
                for row in given:
                    self.assertIsNotNone(solved_letters(figures, flipped_table(made), row))
                for row in made:
                    self.assertIsNotNone(solved_letters(figures, flipped_table(given), row))
                # Exactly one fits, so rows led by an invertible table have the same one.
                turned = table_times(figures, drawn_invertible(figures, draw, rows), given)
                self.assertEqual(reduced_table(figures, turned), (made, leading))

    def test_ranks_of_products(self):
        figures = Figures(0)
        self.assertEqual(rank_of(figures, table(figures, ((1, 2), (2, 4)))), 1)
        self.assertEqual(rank_of(figures, table(figures, ((1, 2), (2, 5)))), 2)
        self.assertEqual(rank_of(Figures(2), ((1, 1), (1, 1), (0, 1))), 2)
        self.assertEqual(rank_of(Figures(5), ((1, 2), (2, 4))), 1)


class UndoneTest(unittest.TestCase):

    def test_both_orders(self):
        draw = drawer(8)
        for figures in all_figures():
            self.assertEqual(undone_table(figures, ()), ())
            for size in range(1, 6):
                given = drawn_invertible(figures, draw, size)
                undone = undone_table(figures, given)
                unit = unit_table(figures, size)
                self.assertEqual(plain_times(figures, undone, given), unit)
                self.assertEqual(plain_times(figures, given, undone), unit)

    def test_not_once(self):
        draw = drawer(9)
        for figures in all_figures():
            for rows, columns in ((1, 2), (2, 1), (3, 2), (2, 5)):
                self.assertEqual(raised(undone_table, figures, drawn_table(figures, draw, rows, columns)),
                                 ("NotOnce", ()))
            self.assertEqual(raised(undone_table, figures, ((figures.zero,),)), ("NotOnce", ()))
            self.assertEqual(raised(undone_table, figures, ((figures.one,) * 3,) * 3), ("NotOnce", ()))
        self.assertEqual(raised(undone_table, Figures(5), ((1, 2), (2, 4))), ("NotOnce", ()))
        self.assertEqual(raised(undone_table, Figures(3), ((1, 1), (1, 1))), ("NotOnce", ()))


class NothingTest(unittest.TestCase):

    def test_drawn_ones(self):
        draw = drawer(10)
        for figures in all_figures():
            for _ in range(40):
                rows, columns = draw.randint(1, 6), draw.randint(1, 5)
                given = drawn_table(figures, draw, rows, columns, draw.random())
                made = nothing_rows(figures, given)
                self.assertEqual(len(made), rows - rank_of(figures, given))
                if made:
                    self.assertEqual(plain_times(figures, made, given), zero_rows(figures, len(made), columns))
                    self.assertEqual(reduced_table(figures, made)[0], made)
                    self.assertEqual(rank_of(figures, made), len(made))

    def test_edges(self):
        for figures in all_figures():
            self.assertEqual(nothing_rows(figures, unit_table(figures, 4)), ())
            self.assertEqual(nothing_rows(figures, ()), ())
            self.assertEqual(nothing_rows(figures, zero_rows(figures, 3, 2)), unit_table(figures, 3))
            self.assertEqual(nothing_rows(figures, zero_rows(figures, 1, 1)), ((figures.one,),))
        figures = Figures(0)
        self.assertEqual(nothing_rows(figures, table(figures, ((1,), (2,), (3,)))),
                         table(figures, ((1, 0, (-1, 3)), (0, 1, (-2, 3)))))


class LettersTest(unittest.TestCase):

    def test_all_letters_by_small_primes(self):
        draw = drawer(11)
        for prime in (2, 3):
            figures = Figures(prime)
            for _ in range(60):
                rows, columns = draw.randint(1, 4), draw.randint(1, 4)
                given = drawn_table(figures, draw, rows, columns, draw.random())
                told = tuple(drawn_number(figures, draw) for _ in range(rows))
                right = [letters for letters in itertools.product(range(prime), repeat=columns)
                         if all(sum(a * b for a, b in zip(row, letters)) % prime == number
                                for row, number in zip(given, told))]
                leading = reduced_table(figures, given)[1]
                due = [letters for letters in right
                       if all(letters[place] == 0 for place in range(columns) if place not in leading)]
                made = solved_letters(figures, given, told)
                self.assertEqual([made] if made is not None else [], due)

    def test_drawn_ones(self):
        draw = drawer(12)
        for figures in all_figures():
            for _ in range(30):
                rows, columns = draw.randint(1, 5), draw.randint(1, 5)
                given = drawn_table(figures, draw, rows, columns, draw.random())
                letters = tuple((drawn_number(figures, draw),) for _ in range(columns))
                told = tuple(row[0] for row in plain_times(figures, given, letters))
                made = solved_letters(figures, given, list(told))
                self.assertIs(type(made), tuple)
                self.assertEqual(tuple(r[0] for r in plain_times(figures, given, [(n,) for n in made])), told)
                leading = reduced_table(figures, given)[1]
                for place in range(columns):
                    if place not in leading:
                        self.assertEqual(made[place], figures.zero)

    def test_none(self):
        for figures in all_figures():
            zero, one = figures.zero, figures.one
            self.assertIsNone(solved_letters(figures, ((zero, zero),), (one,)))
            self.assertEqual(solved_letters(figures, ((zero, zero),), (zero,)), (zero, zero))
            self.assertIsNone(solved_letters(figures, ((one, one), (one, one)), (one, zero)))
            self.assertEqual(solved_letters(figures, ((one, one), (one, one)), (one, one)), (one, zero))
            self.assertEqual(solved_letters(figures, ((zero, one),), (one,)), numbers(figures, (0, 1)))


if __name__ == "__main__":
    unittest.main()
