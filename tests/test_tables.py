"""Promises 1.02 and 1.04, the checks of tables and letters [1.3]."""

import unittest

from helpers import all_figures, long_number, drawer, numbers, raised, table
from sparedproducts.figures import Figures
from sparedproducts.tables import check_letters, check_table


def lists(rows):
    return [list(row) for row in rows]


class TableTest(unittest.TestCase):

    def test_every_size_from_one_to_five(self):
        for figures in all_figures():
            for rows in range(1, 6):
                for columns in range(1, 6):
                    made = table(figures, [[row - column for column in range(columns)] for row in range(rows)])
                    self.assertEqual(check_table(figures, lists(made)), made)
                    self.assertEqual(check_table(figures, made, rows, columns), made)
                    self.assertEqual(check_table(figures, tuple(lists(made)), rows), made)
                    self.assertEqual(check_table(figures, made, columns=columns), made)

    def test_the_result_is_made_of_tuples(self):
        made = check_table(Figures(3), [[0, 1], [2, 2]])
        self.assertEqual(made, ((0, 1), (2, 2)))
        self.assertIs(type(made), tuple)
        self.assertIs(type(made[0]), tuple)

    def test_wrong_rows(self):
        for figures in all_figures():
            one = figures.one
            for thing in (None, 3, "ab", {}, (), [], [[one]] * 6):
                self.assertEqual(raised(check_table, figures, thing), ("BadTable", (0, "rows")))
            self.assertEqual(raised(check_table, figures, [[one]], 2), ("BadTable", (0, "rows")))
            self.assertEqual(raised(check_table, figures, [[one]] * 3, 2, 1), ("BadTable", (0, "rows")))
            # The count of the rows comes ahead of what they are.
            self.assertEqual(raised(check_table, figures, [None] * 6), ("BadTable", (0, "rows")))

    def test_wrong_columns(self):
        for figures in all_figures():
            one = figures.one
            for thing in (None, 3, "a", {}, (), [], [one] * 6):
                self.assertEqual(raised(check_table, figures, [thing]), ("BadTable", (0, "columns")))
                self.assertEqual(raised(check_table, figures, [[one], [one], thing]), ("BadTable", (2, "columns")))
            self.assertEqual(raised(check_table, figures, [[one], [one] * 2]), ("BadTable", (1, "columns")))
            self.assertEqual(raised(check_table, figures, [[one] * 2, [one]]), ("BadTable", (1, "columns")))
            self.assertEqual(raised(check_table, figures, [[one] * 2], 1, 3), ("BadTable", (0, "columns")))
            self.assertEqual(raised(check_table, figures, [[one] * 3, [one] * 2], 2, 3), ("BadTable", (1, "columns")))

    def test_wrong_numbers(self):
        for figures in all_figures():
            one = figures.one
            for thing in (True, None, "1", 1.0, [1, 1], (2, 2), -1, figures.prime or 1):
                self.assertEqual(raised(check_table, figures, [[one, one], [one, thing]]), ("BadTable", (1, "number")))
                self.assertEqual(raised(check_table, figures, [[thing]]), ("BadTable", (0, "number")))

    def test_what_is_told_first(self):
        figures = Figures(5)
        # All of a row comes ahead of the next row, the columns ahead of the numbers.
        self.assertEqual(raised(check_table, figures, [[1, None], [1]]), ("BadTable", (0, "number")))
        self.assertEqual(raised(check_table, figures, [[1, 1], [None]]), ("BadTable", (1, "columns")))
        self.assertEqual(raised(check_table, figures, [[1] * 6, [None]]), ("BadTable", (0, "columns")))
        self.assertEqual(raised(check_table, figures, [[None] * 2, [1]], 3), ("BadTable", (0, "rows")))

    def test_nothing_about_the_prime(self):
        made = ((0, 1, 1, 0, 1),) * 5
        self.assertEqual(check_table(Figures(2), made), made)

    def test_what_is_passed_in_stays(self):
        given = [[0, 1], [1, 0]]
        made = check_table(Figures(2), given)
        self.assertEqual(given, [[0, 1], [1, 0]])
        given[0][0] = 1
        self.assertEqual(made, ((0, 1), (1, 0)))

    def test_long_numbers(self):
        draw = drawer(3)
        made = tuple(tuple(long_number(draw) for _ in range(5)) for _ in range(5))
        self.assertEqual(check_table(Figures(0), lists(made)), made)


class LettersTest(unittest.TestCase):

    def test_right_ones(self):
        for figures in all_figures():
            for many in range(0, 6):
                made = numbers(figures, range(many))
                self.assertEqual(check_letters(figures, list(made), many, "left"), made)
                self.assertIs(type(check_letters(figures, list(made), many, "left")), tuple)

    def test_no_sequence(self):
        for figures in all_figures():
            for thing in (None, 1, "ab", {}, {1}):
                self.assertEqual(raised(check_letters, figures, thing, 2, "word"), ("BadLetters", ("word", 0)))

    def test_no_number(self):
        for figures in all_figures():
            one = figures.one
            for thing in (True, None, "1", [1, 1], figures.prime or 1):
                for at in range(3):
                    given = [one] * 3
                    given[at] = thing
                    self.assertEqual(raised(check_letters, figures, given, 3, "right"), ("BadLetters", ("right", at)))
                given = [one, thing, thing]
                self.assertEqual(raised(check_letters, figures, given, 3, "x"), ("BadLetters", ("x", 1)))

    def test_fewer_or_more(self):
        for figures in all_figures():
            one = figures.one
            self.assertEqual(raised(check_letters, figures, [one], 3, "x"), ("BadLetters", ("x", 1)))
            self.assertEqual(raised(check_letters, figures, [], 3, "x"), ("BadLetters", ("x", 0)))
            self.assertEqual(raised(check_letters, figures, [one] * 4, 3, "x"), ("BadLetters", ("x", 3)))
            # Behind the numbers that are due nothing is looked at.
            self.assertEqual(raised(check_letters, figures, [one, one, None], 2, "x"), ("BadLetters", ("x", 2)))
            # A wrong number comes ahead of the count.
            self.assertEqual(raised(check_letters, figures, [None], 3, "x"), ("BadLetters", ("x", 0)))
            self.assertEqual(raised(check_letters, figures, [one, None, one, one], 3, "x"), ("BadLetters", ("x", 1)))


if __name__ == "__main__":
    unittest.main()
