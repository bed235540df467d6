"""Promises 3.05, 3.06, 4.16: points, power rows and tables, points of programs [5.1] to [5.3], [5.5]."""

import unittest

from drawnprograms import any_program, drawn_program
from helpers import PRIMES, all_figures, drawer, drawn_number, long_number, numbers, plain_times, raised
from secondway import all_points
from sparedproducts.figures import Figures
from sparedproducts.points import check_points, points_for, power_row, power_table, program_points, undone_powers
from sparedproducts.polys import value_at
from sparedproducts.programs import Program
from sparedproducts.solving import unit_table


def no_points(figures):
    things = [True, False, None, "1", "Last", "", b"last", 1.0, (), [], ("last",), ["last"], -1]
    return things + ([figures.prime, (1, 1)] if figures.prime else [0, 1, (2, 2), (1, 0), [1, 1], (True, 1)])


def most_points(figures):
    return min(6, figures.prime + 1) if figures.prime else 6


def drawn_points(figures, draw, many):
    """Unlike points, "last" now and then."""
    if figures.prime:
        return tuple(draw.sample(all_points(figures), many))
    points = []
    while len(points) < many:
        point = draw.choice((drawn_number(figures, draw), drawn_number(figures, draw), long_number(draw), "last"))
        if point not in points:
            points.append(point)
    return tuple(points)


class PointsForTest(unittest.TestCase):

    def test_first_points(self):
        for figures in all_figures():
            for many in range(most_points(figures) + 1):
                due = [figures.whole_number(place) for place in range(many)]
                if figures.prime and many > figures.prime:
                    due = list(range(figures.prime)) + ["last"]
                self.assertEqual(points_for(figures, many), tuple(due))
        self.assertEqual(points_for(Figures(2), 3), (0, 1, "last"))
        self.assertEqual(points_for(Figures(3), 4), (0, 1, 2, "last"))
        self.assertEqual(points_for(Figures(5), 6), (0, 1, 2, 3, 4, "last"))
        self.assertEqual(points_for(Figures(7), 6), (0, 1, 2, 3, 4, 5))
        self.assertEqual(points_for(Figures(0), 2), ((0, 1), (1, 1)))

    def test_too_many(self):
        for prime, most in ((0, 6), (2, 3), (3, 4), (5, 6), (7, 6), (11, 6), (13, 6)):
            for thing in (most + 1, -1, True, False, None, "1", 1.0, (1,), 10 ** 20):
                self.assertEqual(raised(points_for, Figures(prime), thing), ("BadMany", (most,)))


class CheckTest(unittest.TestCase):

    def test_right_ones(self):
        draw = drawer(141)
        for figures in all_figures():
            for many in range(most_points(figures) + 1):
                points = drawn_points(figures, draw, many)
                self.assertEqual(check_points(figures, list(points), many), points)
                self.assertEqual(check_points(figures, points, many), points)
                self.assertEqual(check_points(figures, points, many, True), points)
                if "last" not in points:
                    self.assertEqual(check_points(figures, points, many, False), points)
                    self.assertEqual(check_points(figures, points, many, last=False), points)
            # More than six points are no matter here.
            self.assertEqual(check_points(figures, all_points(figures), len(all_points(figures))), all_points(figures))

    def test_first_wrong_entry(self):
        for figures in all_figures():
            zero, one = figures.zero, figures.one
            for thing in no_points(figures):
                self.assertEqual(raised(check_points, figures, (thing,), 1), ("BadPoints", (0,)))
                self.assertEqual(raised(check_points, figures, [zero, "last", thing], 3), ("BadPoints", (2,)))
                self.assertEqual(raised(check_points, figures, (one, thing, one), 3), ("BadPoints", (1,)))
            self.assertEqual(raised(check_points, figures, (zero, one, zero), 3), ("BadPoints", (2,)))
            self.assertEqual(raised(check_points, figures, ("last", one, "last"), 3), ("BadPoints", (2,)))
            self.assertEqual(raised(check_points, figures, (one, one, "last"), 3, False), ("BadPoints", (1,)))
            self.assertEqual(raised(check_points, figures, (one, "last", zero), 3, False), ("BadPoints", (1,)))
            self.assertEqual(raised(check_points, figures, ("last",), 1, False), ("BadPoints", (0,)))
            self.assertIsNone(raised(check_points, figures, ("last",), 1))

    def test_no_sequence_of_that_many(self):
        for figures in all_figures():
            zero, one = figures.zero, figures.one
            for thing in (None, "last", {zero: one}, 3, (), (zero,), (zero, one, "last"), [None] * 3):
                self.assertEqual(raised(check_points, figures, thing, 2), ("BadPoints", (0,)))
            self.assertEqual(raised(check_points, figures, "", 0), ("BadPoints", (0,)))
            self.assertEqual(raised(check_points, figures, (one, None, None), 2), ("BadPoints", (0,)))
            self.assertEqual(raised(check_points, figures, (one, None), 2), ("BadPoints", (1,)))


class PowersTest(unittest.TestCase):

    def test_rows(self):
        draw = drawer(142)
        for figures in all_figures():
            for size in range(1, 7):
                for point in all_points(figures)[:-1] + (drawn_number(figures, draw),):
                    power = figures.one
                    due = []
                    for _ in range(size):
                        due.append(power)
                        power = figures.times(power, point)
                    self.assertEqual(power_row(figures, point, size), tuple(due))
                self.assertEqual(power_row(figures, "last", size), (figures.zero,) * (size - 1) + (figures.one,))
                self.assertEqual(power_row(figures, figures.zero, size), (figures.one,) + (figures.zero,) * (size - 1))
        self.assertEqual(power_row(Figures(0), (-2, 3), 4), ((1, 1), (-2, 3), (4, 9), (-8, 27)))
        self.assertEqual(power_row(Figures(7), 3, 6), (1, 3, 2, 6, 4, 5))

    def test_refusals_of_rows(self):
        for figures in all_figures():
            for thing in no_points(figures):
                self.assertEqual(raised(power_row, figures, thing, 2), ("BadPoints", (0,)))
                self.assertEqual(raised(power_row, figures, thing, 0), ("BadPoints", (0,)))
            for size in (0, 7, -1, True, None, "2", 2.0, (2,), 10 ** 20):
                for point in (figures.one, "last"):
                    self.assertEqual(raised(power_row, figures, point, size), ("BadMany", (6,)))

    def test_tables_and_what_undoes_them(self):
        draw = drawer(143)
        for figures in all_figures():
            for many in range(1, most_points(figures) + 1):
                for _ in range(6):
                    points = drawn_points(figures, draw, many)
                    table = power_table(figures, list(points))
                    self.assertEqual(table, tuple(power_row(figures, point, many) for point in points))
                    undone = undone_powers(figures, points)
                    self.assertEqual(plain_times(figures, undone, table), unit_table(figures, many))
                    self.assertEqual(plain_times(figures, table, undone), unit_table(figures, many))
                    self.columns_are_polys(figures, points, undone)

    def columns_are_polys(self, figures, points, undone):
        """Column k is the poly that is 1 at the k-th point and 0 at the others."""
        for place in range(len(points)):
            column = [row[place] for row in undone]
            poly = list(column)
            while poly and poly[-1] == figures.zero:
                poly.pop()
            for other, point in enumerate(points):
                value = column[-1] if point == "last" else value_at(figures, poly, point)
                self.assertEqual(value, figures.one if other == place else figures.zero)

    def test_refusals_of_tables(self):
        for figures in all_figures():
            zero, one = figures.zero, figures.one
            for deed in (power_table, undone_powers):
                for thing in (None, "last", (), [], 3, {}, (None,) * 7, ("last",) * 7):
                    self.assertEqual(raised(deed, figures, thing), ("BadPoints", (0,)))
                self.assertEqual(raised(deed, figures, (one, one)), ("BadPoints", (1,)))
                self.assertEqual(raised(deed, figures, ("last", zero, "last", None)), ("BadPoints", (2,)))
                self.assertEqual(raised(deed, figures, (None,)), ("BadPoints", (0,)))
                self.assertEqual(raised(deed, figures, [zero, True]), ("BadPoints", (1,)))
        # By 2 there are only three points.
        self.assertEqual(raised(power_table, Figures(2), (0, 1, "last", 0)), ("BadPoints", (3,)))
        seven = tuple((many, 1) for many in range(7))
        self.assertEqual(raised(power_table, Figures(0), seven), ("BadPoints", (0,)))
        self.assertIsNone(raised(power_table, Figures(0), seven[:6]))

    def test_by_two(self):
        self.assertEqual(power_table(Figures(2), ("last", 0, 1)), ((0, 0, 1), (1, 0, 0), (1, 1, 1)))
        self.assertEqual(undone_powers(Figures(2), ("last", 0, 1)), ((0, 1, 0), (1, 1, 1), (1, 0, 0)))


class ProgramPointsTest(unittest.TestCase):

    def test_points_in_their_order(self):
        draw = drawer(144)
        for figures in all_figures():
            for _ in range(20):
                program = any_program(figures, draw)
                due = []
                for _, _, first, second in program:
                    if first == figures.zero == second:
                        due = ("NoPoint", (len(due),))
                        break
                    due.append("last" if first == figures.zero else figures.over(second, first))
                if isinstance(due, tuple):
                    self.assertEqual(raised(program_points, program), due)
                else:
                    self.assertEqual(program_points(program), tuple(due))

    def test_first_product_without_a_point(self):
        for figures in all_figures():
            one, zero = figures.one, figures.zero
            good = ((zero,), (zero,), one, one)
            none = ((one,), (one,), zero, zero)
            self.assertEqual(raised(program_points, Program(figures, 1, 1, [good, good, none, none])), ("NoPoint", (2,)))
            self.assertEqual(raised(program_points, Program(figures, 1, 1, [none])), ("NoPoint", (0,)))
            # Products that do nothing for other reasons have a point, and equal points may stand.
            self.assertEqual(program_points(Program(figures, 1, 1, [good, good])), (one, one))
            self.assertEqual(program_points(Program(figures, 1, 1, ())), ())

    def test_numbers_multiplied_keep_the_points(self):
        draw = drawer(145)
        for figures in all_figures():
            for number in (numbers(figures, (-1,)) + ((figures.one,) if figures.prime else ((3, 7),))):
                program = drawn_program(figures, draw, 2, 2, 4, 1.0)
                good = [entry for entry in program if entry[2:] != (figures.zero,) * 2]
                other = [(u, v, figures.times(number, c), figures.times(number, d)) for u, v, c, d in good]
                self.assertEqual(program_points(Program(figures, 2, 2, good)),
                                 program_points(Program(figures, 2, 2, other)))

    def test_every_point_by_a_prime(self):
        for prime in PRIMES:
            figures = Figures(prime)
            for c in range(prime):
                for d in range(prime):
                    if c or d:
                        (point,) = program_points(Program(figures, 1, 1, [((1,), (1,), c, d)]))
                        self.assertEqual(point, "last" if c == 0 else [t for t in range(prime) if (t * c - d) % prime == 0][0])


if __name__ == "__main__":
    unittest.main()
