"""Promises 6.10 and stage 5: rings [6.15]."""

import unittest

from drawnprograms import drawn_row
from helpers import all_figures, drawer, most_sides, numbers, raised
from sparedproducts.blocks import square_pair
from sparedproducts.counts import fewest_of
from sparedproducts.figures import Figures
from sparedproducts.polys import poly_minus, poly_times
from sparedproducts.programs import is_right
from sparedproducts.remainders import remainder_program
from sparedproducts.rings import ring_filter, ring_poly, ring_program
from sparedproducts.rulerows import rule_filter, rule_row
from sparedproducts.turnedabout import turned_about
from test_filters import not_numbers
from test_longrows import bad_rows, bad_taps
from test_remainders import right_programs

BAD_SIZES = (0, -1, 6, True, False, None, "2", 2.0, (2,), 10 ** 20)


def ring_by_hand(figures, taps, row):
    return tuple(figures.plus(figures.times(taps[0], row[place]), figures.times(taps[1], row[(place + 1) % len(row)]))
                 for place in range(len(row)))


def due_count(figures, results):
    """As [6.15] tells it, by nothing but the prime and the size."""
    if figures.prime:
        apart = (figures.prime - 1) % results == 0
    else:
        apart = results in (1, 2)
    return results if apart else results + 1


class PolyTest(unittest.TestCase):

    def test_all_sizes(self):
        for figures in all_figures():
            power = (figures.one,)
            for results in range(1, most_sides(figures) + 1):
                power = poly_times(figures, power, (figures.zero, figures.one))
                made = ring_poly(figures, results)
                self.assertEqual(made, poly_minus(figures, power, (figures.one,)))
                self.assertEqual((type(made), len(made)), (tuple, results + 1))
        self.assertEqual(ring_poly(Figures(0), 2), ((-1, 1), (0, 1), (1, 1)))
        self.assertEqual(ring_poly(Figures(2), 1), (1, 1))

    def test_rule_rows_repeat(self):
        draw = drawer(311)
        for figures in all_figures():
            for results in range(1, most_sides(figures) + 1):
                first = drawn_row(figures, draw, results)
                made = rule_row(figures, ring_poly(figures, results), first, 60)
                self.assertEqual(made, (first * 60)[:60])

    def test_refusals(self):
        for figures in all_figures():
            wide = (figures.prime + 1,) if figures.prime in (2, 3) else ()
            for size in BAD_SIZES + wide:
                self.assertEqual(raised(ring_poly, figures, size), ("BadSize", ()))
                self.assertEqual(raised(ring_program, figures, size), ("BadSize", ()))
            self.assertIsNone(raised(ring_program, figures, most_sides(figures)))


class FilterTest(unittest.TestCase):

    def test_rows_of_all_lengths(self):
        draw = drawer(312)
        for figures in all_figures():
            for many in list(range(1, 9)) + [59, 60]:
                taps, row = drawn_row(figures, draw, 2), drawn_row(figures, draw, many)
                made = ring_filter(figures, taps, row)
                self.assertEqual(made, ring_by_hand(figures, taps, row))
                self.assertIs(type(made), tuple)
                self.assertEqual(ring_filter(figures, list(taps), list(row)), made)
        figures = Figures(0)
        self.assertEqual(ring_filter(figures, numbers(figures, (2, 3)), numbers(figures, (7,))), ((35, 1),))
        self.assertEqual(ring_filter(Figures(5), (1, 2), (1, 2, 3)), (0, 3, 0))

    def test_refusals_in_their_order(self):
        for figures in all_figures():
            one = figures.one
            for taps, index in bad_taps(figures):
                self.assertEqual(raised(ring_filter, figures, taps, None), ("BadLetters", ("taps", index)))
            for row, index in bad_rows(figures, 1, 60):
                self.assertEqual(raised(ring_filter, figures, (one, one), row), ("BadRow", ("row", index)))
            for thing in not_numbers(figures):
                self.assertEqual(raised(ring_filter, figures, (one, one), (one, one, thing, thing)), ("BadRow", ("row", 2)))


class ProgramTest(unittest.TestCase):

    def test_counts_of_all_sizes_over_all_figures(self):
        for figures in all_figures():
            for results in range(1, most_sides(figures) + 1):
                poly = ring_poly(figures, results)
                made = ring_program(figures, results)
                self.assertEqual(made, remainder_program(figures, poly))
                self.assertEqual(len(made), due_count(figures, results))
                self.assertEqual(fewest_of(square_pair(figures, poly)).number, due_count(figures, results))
                self.assertTrue(is_right(square_pair(figures, poly), made))

    def test_any_right_program_filters_the_ring(self):
        draw = drawer(313)
        for figures in all_figures():
            for results in range(1, most_sides(figures) + 1):
                poly = ring_poly(figures, results)
                for program in right_programs(figures, draw, poly) + [ring_program(figures, results)]:
                    taps, row = drawn_row(figures, draw, 2), drawn_row(figures, draw, results)
                    due = ring_by_hand(figures, taps, row)
                    self.assertEqual(turned_about(program, by="y")(taps, row), due)
                    self.assertEqual(ring_filter(figures, taps, row), due)
                    self.assertEqual(rule_filter(program, poly, taps, row, 2 * results).results, due + due)


if __name__ == "__main__":
    unittest.main()
