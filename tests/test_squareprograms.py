"""Promises 4.01, 4.02, 4.03, 4.10: programs of square blocks and of any blocks [5.6] to [5.8]."""

import itertools
import unittest

from drawnprograms import tables_of
from helpers import all_figures, drawer, drawn_number, fraction, long_number, most_sides, numbers, raised
from secondway import plain_roots, plainly_apart
from sparedproducts.blocks import square_pair
from sparedproducts.counts import fewest_of
from sparedproducts.factors import comes_apart
from sparedproducts.figures import Figures
from sparedproducts.lyingprograms import lying_program, standing_program
from sparedproducts.points import points_for, power_row, undone_powers
from sparedproducts.polys import poly_minus, poly_of_roots
from sparedproducts.programs import Program, is_right
from sparedproducts.squareprograms import apart_program, block_program, extra_program
from test_points import no_points


def drawn_led_poly(figures, draw, degree):
    return tuple(drawn_number(figures, draw) for _ in range(degree)) + (figures.one,)


def unlike_numbers(figures, draw, many):
    if figures.prime:
        return tuple(draw.sample(range(figures.prime), many))
    found = []
    while len(found) < many:
        number = draw.choice((drawn_number(figures, draw), drawn_number(figures, draw), long_number(draw)))
        if number not in found:
            found.append(number)
    return tuple(found)


def ascending(figures, roots):
    return tuple(sorted(roots, key=None if figures.prime else fraction))


def bad_polys(figures):
    """Things that square_pair refuses, and how."""
    one, zero, most = figures.one, figures.zero, most_sides(figures)
    found = [((), (0, "degree")), ((one,), (0, "degree")), ((one,) * (most + 2), (0, "degree")),
             ((one,) * 13, (0, "many")), (None, (0, "many")), ("ab", (0, "many")), (3, (0, "many")),
             ((one, True), (1, "number")), ((None, zero), (0, "number")), ((one, zero), (1, "last"))]
    if figures.prime != 2:
        found.append(((one, figures.whole_number(2)), (1, "led")))
    return found


class ApartTest(unittest.TestCase):

    def judge(self, figures, poly, roots):
        made = apart_program(figures, poly)
        self.assertIsInstance(made, Program)
        undone = undone_powers(figures, roots)
        many = len(roots)
        due = [(tuple(row[place] for row in undone), power_row(figures, root, many), figures.one, root)
               for place, root in enumerate(roots)]
        self.assertEqual(made.products, tuple(due))
        self.assertEqual((made.rows, made.columns), (many, many))
        given = square_pair(figures, poly)
        self.assertTrue(is_right(given, made))
        self.assertEqual(tables_of(figures, many, many, made.products), [given.first, given.second])

    def test_drawn_roots(self):
        draw = drawer(181)
        for figures in all_figures():
            for many in range(1, most_sides(figures) + 1):
                for _ in range(5):
                    roots = unlike_numbers(figures, draw, many)
                    poly = poly_of_roots(figures, roots)
                    self.judge(figures, poly, ascending(figures, roots))
                    self.assertEqual(apart_program(figures, list(poly)), apart_program(figures, poly))

    def test_all_polys_by_small_primes(self):
        for prime in (2, 3, 5):
            figures = Figures(prime)
            for degree in range(1, 4 if prime == 5 else prime + 1):
                for below in itertools.product(range(prime), repeat=degree):
                    poly = below + (1,)
                    roots = plain_roots(figures, poly)
                    if len(roots) == degree:
                        self.judge(figures, poly, tuple(roots))
                    else:
                        self.assertEqual(raised(apart_program, figures, poly), ("NotApart", ()))

    def test_polys_that_do_not_come_apart(self):
        for figures in all_figures():
            for size in range(2, most_sides(figures) + 1):
                power = (figures.zero,) * size + (figures.one,)
                self.assertEqual(raised(apart_program, figures, power), ("NotApart", ()))
        self.assertEqual(raised(apart_program, Figures(0), numbers(Figures(0), (-2, 0, 1))), ("NotApart", ()))
        self.assertEqual(raised(apart_program, Figures(3), (1, 0, 1)), ("NotApart", ()))

    def test_refusals(self):
        for figures in all_figures():
            for thing, due in bad_polys(figures):
                self.assertEqual(raised(apart_program, figures, thing), ("BadPoly", due))


class ExtraTest(unittest.TestCase):

    def judge(self, figures, poly, points, made):
        """Product by product, by nothing but the words of [5.7]."""
        many = len(points)
        self.assertEqual((made.rows, made.columns, len(made)), (many, many, many + 1))
        product = poly_of_roots(figures, points)
        undone = undone_powers(figures, points)
        for place, point in enumerate(points):
            self.assertEqual(made.products[place], (tuple(row[place] for row in undone),
                                                    power_row(figures, point, many), figures.one, point))
        self.assertTrue(is_right(square_pair(figures, product), Program(figures, many, many, made.products[:-1])))
        rest = poly_minus(figures, product, poly)
        rest = rest + (figures.zero,) * (many - len(rest))
        last = (figures.zero,) * (many - 1) + (figures.one,)
        self.assertEqual(made.products[-1], (rest, last, figures.zero, figures.one))
        given = square_pair(figures, poly)
        self.assertTrue(is_right(given, made))
        self.assertEqual(tables_of(figures, many, many, made.products), [given.first, given.second])

    def test_any_polys_at_any_numbers(self):
        draw = drawer(182)
        for figures in all_figures():
            for degree in range(1, most_sides(figures) + 1):
                for _ in range(8):
                    poly = drawn_led_poly(figures, draw, degree)
                    points = unlike_numbers(figures, draw, degree)
                    self.judge(figures, poly, points, extra_program(figures, list(poly), list(points)))
                    self.assertEqual(extra_program(figures, poly, points=points), extra_program(figures, poly, points))

    def test_at_the_first_numbers(self):
        draw = drawer(183)
        for figures in all_figures():
            for degree in range(1, most_sides(figures) + 1):
                poly = drawn_led_poly(figures, draw, degree)
                points = points_for(figures, degree)
                self.assertNotIn("last", points)
                self.judge(figures, poly, points, extra_program(figures, poly))
                self.assertEqual(extra_program(figures, poly), extra_program(figures, poly, None))

    def test_the_last_product_stands_though_it_does_nothing(self):
        draw = drawer(184)
        for figures in all_figures():
            for degree in range(1, most_sides(figures) + 1):
                points = unlike_numbers(figures, draw, degree)
                made = extra_program(figures, poly_of_roots(figures, points), points)
                self.judge(figures, poly_of_roots(figures, points), points, made)
                self.assertEqual(made.products[-1][0], (figures.zero,) * degree)

    def test_example(self):
        figures = Figures(0)
        made = extra_program(figures, numbers(figures, (1, 0, 1)), numbers(figures, (0, 1)))
        due = (((1, -1), (1, 0), (1, 0)), ((0, 1), (1, 1), (1, 1)), ((-1, -1), (0, 1), (0, 1)))
        self.assertEqual(made.products, tuple((numbers(figures, u), numbers(figures, v)) + numbers(figures, ends)
                                              for u, v, ends in due))

    def test_refusals(self):
        for figures in all_figures():
            one, zero = figures.one, figures.zero
            for thing, due in bad_polys(figures):
                self.assertEqual(raised(extra_program, figures, thing), ("BadPoly", due))
                self.assertEqual(raised(extra_program, figures, thing, "last"), ("BadPoly", due))
            poly = numbers(figures, (0, 0, 1))
            for thing in ((), [], (one,), (zero, one, "last"), "last", 3, {}, False, (None,) * 3):
                self.assertEqual(raised(extra_program, figures, poly, thing), ("BadPoints", (0,)))
            self.assertEqual(raised(extra_program, figures, poly, (zero, "last")), ("BadPoints", (1,)))
            self.assertEqual(raised(extra_program, figures, poly, ("last", None)), ("BadPoints", (0,)))
            self.assertEqual(raised(extra_program, figures, poly, [one, one]), ("BadPoints", (1,)))
            for thing in no_points(figures):
                self.assertEqual(raised(extra_program, figures, poly, (thing, zero)), ("BadPoints", (0,)))
                self.assertEqual(raised(extra_program, figures, poly, (one, thing)), ("BadPoints", (1,)))


class BlockTest(unittest.TestCase):

    def test_lying_and_standing(self):
        for figures in all_figures():
            for size in range(1, most_sides(figures)):
                points = points_for(figures, size + 1)[::-1]
                for word, deed in (("lying", lying_program), ("standing", standing_program)):
                    self.assertEqual(block_program(figures, (word, size)), deed(figures, size))
                    self.assertEqual(block_program(figures, [word, size], None), deed(figures, size))
                    self.assertEqual(block_program(figures, (word, size), points), deed(figures, size, points))
                    self.assertEqual(block_program(figures, (word, size), points=list(points)),
                                     deed(figures, size, points))

    def test_squares(self):
        draw = drawer(185)
        for figures in all_figures():
            for degree in range(1, most_sides(figures) + 1):
                for _ in range(8):
                    poly = drawn_led_poly(figures, draw, degree)
                    points = unlike_numbers(figures, draw, degree)
                    if plainly_apart(figures, poly):
                        self.assertEqual(block_program(figures, ("square", poly)), apart_program(figures, poly))
                        for thing in (points, (), [], "last", 0, False):
                            self.assertEqual(raised(block_program, figures, ("square", poly), thing),
                                             ("BadPoints", (0,)))
                    else:
                        self.assertEqual(block_program(figures, ["square", poly]), extra_program(figures, poly))
                        self.assertEqual(block_program(figures, ("square", poly), points),
                                         extra_program(figures, poly, points))

    def test_as_few_as_any(self):
        draw = drawer(186)
        for figures in all_figures():
            for size in range(1, most_sides(figures)):
                for word in ("lying", "standing"):
                    made = block_program(figures, (word, size))
                    self.assertEqual(len(made), fewest_of(made.pair()).number)
            for degree in range(1, most_sides(figures) + 1):
                for _ in range(5):
                    poly = drawn_led_poly(figures, draw, degree)
                    made = block_program(figures, ("square", poly))
                    self.assertEqual(len(made), fewest_of(square_pair(figures, poly)).number)
                    # A poly comes apart exactly if its pair needs just as many products as its degree.
                    self.assertEqual(len(made) == degree, comes_apart(figures, poly) is not None)
                    self.assertEqual(len(made), degree + (not plainly_apart(figures, poly)))

    def test_no_blocks(self):
        for figures in all_figures():
            poly = (figures.one,) * 2
            for thing in (None, "lying", ("lying",), (), ("lying", 1, None), ("Lying", 1), (1, "lying"), ("idle", 1),
                          ("sq", poly), (None, 1), (["lying"], 1), {"lying": 1, "x": 2}, 5, ("", 1), (("lying", 1),)):
                self.assertEqual(raised(block_program, figures, thing), ("BadBlock", ()))
                self.assertEqual(raised(block_program, figures, thing, "last"), ("BadBlock", ()))

    def test_refusals_of_the_programs(self):
        for figures in all_figures():
            for word in ("lying", "standing"):
                for size in (0, 5, -1, True, None, "1", (figures.one,) * 2):
                    self.assertEqual(raised(block_program, figures, (word, size), ()), ("BadSize", ()))
                self.assertEqual(raised(block_program, figures, (word, 1), ()), ("BadPoints", (0,)))
                self.assertEqual(raised(block_program, figures, (word, 1), ("last", "last")), ("BadPoints", (1,)))
            for thing, due in bad_polys(figures):
                self.assertEqual(raised(block_program, figures, ("square", thing)), ("BadPoly", due))
                self.assertEqual(raised(block_program, figures, ("square", thing), ()), ("BadPoly", due))
            square = ("square", numbers(figures, (0, 0, 1)))
            self.assertEqual(raised(block_program, figures, square, ()), ("BadPoints", (0,)))
            self.assertEqual(raised(block_program, figures, square, (figures.zero, "last")), ("BadPoints", (1,)))


if __name__ == "__main__":
    unittest.main()
