"""Promise 4.04: programs turned about both ways [6.1] to [6.3]."""

import inspect
import unittest

from drawnprograms import any_program, drawn_row, sum_of
from helpers import all_figures, drawer, drawn_pair, most_sides, numbers, raised
from sparedproducts.figures import Figures
from sparedproducts.making import least_program, plain_program
from sparedproducts.pairs import Pair, zero_pair
from sparedproducts.programs import Program
from sparedproducts.turnedabout import About, about_plain, turned_about


def by_hand(pair, by, taps, letters):
    """The results by the words of [6.1]."""
    figures = pair.figures
    results = []
    for place in range(pair.columns if by == "y" else pair.rows):
        parts = []
        for tap, table in zip(taps, (pair.first, pair.second)):
            for other, number in enumerate(letters):
                cell = table[other][place] if by == "y" else table[place][other]
                parts.append(figures.times(tap, figures.times(number, cell)))
        results.append(sum_of(figures, parts))
    return tuple(results)


class AboutTest(unittest.TestCase):

    def test_both_ways(self):
        draw = drawer(211)
        for figures in all_figures():
            for _ in range(20):
                program = any_program(figures, draw)
                due = program.pair()
                for by, letters, results in (("y", program.rows, program.columns),
                                             ("x", program.columns, program.rows)):
                    about = turned_about(program, by=by)
                    self.assertIsInstance(about, About)
                    self.assertEqual((about.figures, about.by, about.letters, about.results),
                                     (figures, by, letters, results))
                    for _ in range(3):
                        taps, given = drawn_row(figures, draw, 2), drawn_row(figures, draw, letters)
                        made = about(taps, given)
                        self.assertIs(type(made), tuple)
                        self.assertEqual(made, by_hand(due, by, taps, given))
                        self.assertEqual(about(list(taps), list(given)), made)
                        self.assertEqual(about_plain(due, by, taps, given), made)
                        self.assertEqual(about_plain(due, by, list(taps), list(given)), made)

    def test_products_and_the_way_back(self):
        draw = drawer(212)
        for figures in all_figures():
            for _ in range(20):
                program = any_program(figures, draw)
                self.assertEqual(turned_about(program).products,
                                 tuple(((c, d), u, v) for u, v, c, d in program))
                self.assertEqual(turned_about(program, by="x").products,
                                 tuple(((c, d), v, u) for u, v, c, d in program))
                for by in "xy":
                    self.assertEqual(turned_about(program, by=by).back(), program)
                    self.assertIsInstance(turned_about(program, by=by).back(), Program)

    def test_by_y_if_nothing_is_told(self):
        figures = Figures(5)
        program = Program(figures, 1, 2, [((2,), (1, 3), 1, 4)])
        self.assertEqual(turned_about(program).by, "y")
        self.assertEqual(turned_about(program)((1, 1), (1,)), turned_about(program, by="y")((1, 1), (1,)))
        kind = inspect.signature(turned_about).parameters["by"].kind
        self.assertEqual(kind, inspect.Parameter.KEYWORD_ONLY)

    def test_the_three_sums(self):
        draw = drawer(213)
        for figures in all_figures():
            for _ in range(20):
                program = any_program(figures, draw)
                z, x, y = [drawn_row(figures, draw, many) for many in (2, program.rows, program.columns)]
                sums = [sum_of(figures, [figures.times(one, other) for one, other in zip(row, told)])
                        for row, told in ((z, program.run(x, y)), (y, turned_about(program, by="y")(z, x)),
                                          (x, turned_about(program, by="x")(z, y)))]
                self.assertEqual(sums[0], sums[1])
                self.assertEqual(sums[0], sums[2])

    def test_least_programs_serve_all_three(self):
        draw = drawer(214)
        for figures in all_figures():
            for _ in range(6):
                given = drawn_pair(figures, draw, draw.randint(1, most_sides(figures)),
                                   draw.randint(1, most_sides(figures)), 0.7)
                program = least_program(given).program
                for by, many in (("y", given.rows), ("x", given.columns)):
                    taps, letters = drawn_row(figures, draw, 2), drawn_row(figures, draw, many)
                    self.assertEqual(turned_about(program, by=by)(taps, letters), by_hand(given, by, taps, letters))
                    self.assertEqual(len(turned_about(program, by=by).products), len(program))

    def test_no_products(self):
        for figures in all_figures():
            program = Program(figures, 1, 2, ())
            about = turned_about(program)
            self.assertEqual((about.products, about((figures.one,) * 2, (figures.one,))), ((), (figures.zero,) * 2))
            self.assertEqual(turned_about(program, by="x")([figures.one] * 2, [figures.one] * 2), (figures.zero,))
            self.assertEqual(about.back(), program)
            self.assertEqual(turned_about(program, by="x").back(), program)
            given = zero_pair(figures, 1, 2)
            self.assertEqual(about_plain(given, "x", [figures.one] * 2, [figures.one] * 2), (figures.zero,))

    def test_complex_numbers(self):
        figures = Figures(0)
        given = Pair(figures, *[tuple(numbers(figures, row) for row in rows)
                                for rows in (((1, 0), (0, -1)), ((0, 1), (1, 0)))])
        for program in (plain_program(given), least_program(given).program):
            # z_0 w_0 + z_1 w_1 and z_1 w_0 - z_0 w_1.
            made = turned_about(program)(numbers(figures, (2, 3)), numbers(figures, (5, 7)))
            self.assertEqual(made, numbers(figures, (31, 1)))

    def test_its_constructor_checks_nothing(self):
        made = About(None, "z", [1], {}, "ab")
        self.assertEqual((made.figures, made.by, made.letters, made.results, made.products), (None, "z", [1], {}, "ab"))
        figures = Figures(3)
        about = About(figures, "y", 1, 2, [((1, 2), (2,), (1, 1))])
        self.assertEqual(about((1, 1), (1,)), (0, 0))
        self.assertEqual(about((1, 0), (1,)), (2, 2))
        self.assertEqual(about.back(), Program(figures, 1, 2, [((2,), (1, 1), 1, 2)]))
        self.assertFalse(about == About(figures, "y", 1, 2, about.products))


class RefusalsTest(unittest.TestCase):

    def test_sides(self):
        for figures in all_figures():
            program = Program(figures, 1, 2, ())
            for thing in ("X", "z", "", None, 1, True, ["y"], ("x",), "xy", b"x"):
                with self.assertRaises(Exception) as caught:
                    turned_about(program, by=thing)
                self.assertEqual(type(caught.exception).__name__, "BadSide")
                self.assertEqual(raised(about_plain, program.pair(), thing, None, None), ("BadSide", ()))

    def test_taps_then_letters(self):
        draw = drawer(215)
        for figures in all_figures():
            one = figures.one
            program = Program(figures, 1, 2, ())
            bad = (True, None, "1", 1.0, (1, 1) if figures.prime else 1)
            for by, many in (("y", 1), ("x", 2)):
                about = turned_about(program, by=by)
                plain = [program.pair(), by]
                good = drawn_row(figures, draw, many)
                for deed, ahead in ((about, []), (about_plain, plain)):
                    for taps, index in ((None, 0), ("ab", 0), ((), 0), ((one,), 1), ((one,) * 3, 2), ({}, 0)):
                        for letters in (good, None):
                            self.assertEqual(raised(deed, *ahead, taps, letters), ("BadLetters", ("taps", index)))
                    for thing in bad:
                        self.assertEqual(raised(deed, *ahead, (thing, one), None), ("BadLetters", ("taps", 0)))
                        self.assertEqual(raised(deed, *ahead, [one, thing], good), ("BadLetters", ("taps", 1)))
                        self.assertEqual(raised(deed, *ahead, (one, one), good[1:] + (thing,)),
                                         ("BadLetters", ("letters", many - 1)))
                    for letters, index in ((None, 0), (3, 0), ((), 0), (good + (one,), many), (good[1:], many - 1)):
                        self.assertEqual(raised(deed, *ahead, [one, one], letters), ("BadLetters", ("letters", index)))


if __name__ == "__main__":
    unittest.main()
