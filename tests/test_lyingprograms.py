"""Promises 3.06, 4.03, 4.16: lying and standing programs, all of them by a prime [5.4], [5.5], [5.13]."""

import itertools
import unittest

from drawnprograms import tables_of
from helpers import PRIMES, all_figures, drawer, drawn_number, most_sides, numbers, raised
from secondway import all_points, numbers_of_products
from sparedproducts.blocks import lying_pair, standing_pair
from sparedproducts.figures import Figures
from sparedproducts.lyingprograms import lying_program, lying_programs, standing_program
from sparedproducts.points import points_for, power_row, program_points, undone_powers
from sparedproducts.programs import Program, is_right
from test_points import drawn_points, no_points

NO_SIZES = (0, -1, 5, True, False, None, "1", 1.0, (1,), 10 ** 20)


class SingleTest(unittest.TestCase):

    def judge(self, figures, size, points, made):
        """Product by product, by nothing but the words of [5.4]."""
        self.assertIsInstance(made, Program)
        self.assertEqual((made.rows, made.columns, len(made)), (size, size + 1, size + 1))
        undone = undone_powers(figures, points)
        for place, (point, entry) in enumerate(zip(points, made)):
            left = power_row(figures, point, size)
            right = tuple(row[place] for row in undone)
            couple = (figures.zero, figures.one) if point == "last" else (figures.one, point)
            self.assertEqual(entry, (left, right) + couple)
        due = lying_pair(figures, size)
        self.assertTrue(is_right(due, made))
        self.assertEqual(tables_of(figures, size, size + 1, made.products), [due.first, due.second])
        self.assertEqual(program_points(made), tuple(points))

    def test_at_drawn_points(self):
        draw = drawer(171)
        for figures in all_figures():
            for size in range(1, most_sides(figures)):
                for _ in range(8):
                    points = drawn_points(figures, draw, size + 1)
                    made = lying_program(figures, size, list(points))
                    self.judge(figures, size, points, made)
                    other = standing_program(figures, size, points)
                    self.assertEqual(other, made.flipped())
                    self.assertTrue(is_right(standing_pair(figures, size), other))
                    self.assertEqual(program_points(other), points)

    def test_at_the_first_points(self):
        for figures in all_figures():
            for size in range(1, most_sides(figures)):
                points = points_for(figures, size + 1)
                self.judge(figures, size, points, lying_program(figures, size))
                self.assertEqual(lying_program(figures, size), lying_program(figures, size, points))
                self.assertEqual(lying_program(figures, size, None), lying_program(figures, size, points=points))
                self.assertEqual(standing_program(figures, size), standing_program(figures, size, points=points))

    def test_examples(self):
        figures = Figures(0)
        made = lying_program(figures, 2, ((0, 1), (1, 1), "last"))
        due = ((((1, 0)), (1, -1, 0), (1, 0)), ((1, 1), (0, 1, 0), (1, 1)), ((0, 1), (0, -1, 1), (0, 1)))
        self.assertEqual(made.products, tuple((numbers(figures, u), numbers(figures, v)) + numbers(figures, ends)
                                              for u, v, ends in due))
        self.assertEqual(standing_program(Figures(5), 2).products,
                         (((1, 1, 3), (1, 0), 1, 0), ((0, 2, 4), (1, 1), 1, 1), ((0, 2, 3), (1, 2), 1, 2)))

    def test_every_choice_of_points(self):
        for prime in (2, 3, 5):
            figures = Figures(prime)
            for size in range(1, prime):
                for points in itertools.permutations(all_points(figures), size + 1):
                    self.assertTrue(is_right(lying_pair(figures, size), lying_program(figures, size, points)))

    def test_refusals(self):
        for figures in all_figures():
            one, zero = figures.one, figures.zero
            for deed in (lying_program, standing_program):
                for size in NO_SIZES + ((figures.prime,) if figures.prime else ()):
                    self.assertEqual(raised(deed, figures, size), ("BadSize", ()))
                    self.assertEqual(raised(deed, figures, size, (None,)), ("BadSize", ()))
                for thing in ((), [], "last", 3, False, {}, (one,), (one, zero, "last"), (None,) * 3):
                    self.assertEqual(raised(deed, figures, 1, thing), ("BadPoints", (0,)))
                self.assertEqual(raised(deed, figures, 1, (one, one)), ("BadPoints", (1,)))
                for thing in no_points(figures):
                    self.assertEqual(raised(deed, figures, 1, (thing, one)), ("BadPoints", (0,)))
                    self.assertEqual(raised(deed, figures, 1, ["last", thing]), ("BadPoints", (1,)))
                if most_sides(figures) > 2:
                    self.assertEqual(raised(deed, figures, 2, (one, "last", "last")), ("BadPoints", (2,)))


class AllTest(unittest.TestCase):

    def test_each_ascending_choice_once(self):
        for prime in PRIMES:
            figures = Figures(prime)
            for size in range(1, min(most_sides(figures), 4 if prime > 7 else 5)):
                made = list(lying_programs(figures, size))
                choices = list(itertools.combinations(all_points(figures), size + 1))
                self.assertEqual([program_points(program) for program in made], choices)
                for program, points in list(zip(made, choices))[::7]:
                    self.assertEqual(program, lying_program(figures, size, points))
        self.assertEqual(sum(1 for _ in lying_programs(Figures(13), 4)), 2002)

    def test_refusals(self):
        def first(figures, size):
            for program in lying_programs(figures, size):
                return program
        for figures in all_figures():
            for size in NO_SIZES + ((figures.prime,) if figures.prime else ()):
                self.assertEqual(raised(first, figures, size), ("BadSize", ()))
        for size in range(1, 5):
            self.assertEqual(raised(first, Figures(0), size), ("NoEnd", ()))

    def test_no_other_least_programs_by_small_primes(self):
        # All programs of size + 1 products, up to order and numbers, by walking through all products.
        for prime, size in ((2, 1), (3, 1), (3, 2), (5, 1)):
            figures = Figures(prime)
            due = lying_pair(figures, size)
            known = {frozenset(entry[:2] for entry in program.tidy()) for program in lying_programs(figures, size)}
            self.assertEqual(self.all_least(figures, due, size), known)

    def all_least(self, figures, due, size):
        """The sets of couples (u, v), each led by one, of all right programs of size + 1 products."""
        rows = [row for row in itertools.product(range(figures.prime), repeat=size) if self.led(row)]
        columns = [row for row in itertools.product(range(figures.prime), repeat=size + 1) if self.led(row)]
        couples = [(u, v) for u in rows for v in columns]
        return {frozenset(lot) for lot in itertools.combinations(couples, size + 1)
                if numbers_of_products(due, lot) is not None}

    def led(self, row):
        return next((number for number in row if number), 0) == 1

    def test_numbers_multiplied_and_order_keep_the_points(self):
        draw = drawer(172)
        for figures in all_figures():
            for size in range(1, most_sides(figures)):
                points = drawn_points(figures, draw, size + 1)
                products = []
                for u, v, c, d in lying_program(figures, size, points):
                    one, other = [next(number for number in iter(lambda: drawn_number(figures, draw), None)
                                       if number != figures.zero) for _ in range(2)]
                    less = figures.over(figures.one, figures.times(one, other))
                    products.append((tuple(figures.times(one, n) for n in u), tuple(figures.times(other, n) for n in v),
                                     figures.times(less, c), figures.times(less, d)))
                made = Program(figures, size, size + 1, products[::-1])
                self.assertTrue(is_right(lying_pair(figures, size), made))
                self.assertEqual(program_points(made), points[::-1])
                # The points tell the program.
                self.assertEqual(Program(figures, size, size + 1, made.products[::-1]).tidy(),
                                 lying_program(figures, size, points).tidy())


if __name__ == "__main__":
    unittest.main()
