"""Promises 5.01, 5.10: taps undone or lost, silent rows, rule rows and the filter over them [6.12] to [6.14]."""

import itertools
import unittest

from drawnprograms import drawn_row, idle_product, sum_of, with_more
from helpers import all_figures, drawer, long_number, numbers, raised
from sparedproducts.factors import roots_of
from sparedproducts.figures import Figures
from sparedproducts.filters import plain_filter
from sparedproducts.longrows import Long
from sparedproducts.polys import poly_of_roots
from sparedproducts.programs import Program
from sparedproducts.remainders import Lost, Undone, remainder_program, undo_taps
from sparedproducts.rulerows import rule_filter, rule_row, silent_row
from test_filters import filter_by_hand, not_numbers
from test_longrows import bad_taps
from test_remainders import drawn_polys, right_programs, wrong_programs
from test_squareprograms import bad_polys

BAD_TIMES = (-1, 61, True, False, None, "1", 1.0, (1,), 10 ** 20)


def rule_by_hand(figures, poly, first, many):
    row = list(first)
    size = len(poly) - 1
    for at in range(many):
        row.append(figures.negative(sum_of(figures, [figures.times(poly[place], row[at + place])
                                                     for place in range(size)])))
    return tuple(row[:many])


def bad_letters(figures, many):
    """Things that are no row of that many numbers, and the index that is told."""
    one = figures.one
    cases = [(None, 0), ("ab", 0), ({}, 0), (7, 0), ((), 0), ((one,) * (many - 1), many - 1),
             ((one,) * (many + 1), many)]
    for thing in not_numbers(figures):
        cases += [((one,) * (many - 1) + (thing,), many - 1), ([thing] * (many + 2), 0)]
    return cases


class RowTest(unittest.TestCase):

    def test_rows_of_all_lengths(self):
        draw = drawer(301)
        for figures in all_figures():
            for poly in drawn_polys(figures, draw, 1):
                size = len(poly) - 1
                first = drawn_row(figures, draw, size)
                for many in (0, 1, size - 1, size, size + 1, 17, 60):
                    made = rule_row(figures, poly, first, many)
                    self.assertEqual(made, rule_by_hand(figures, poly, first, many))
                    self.assertEqual((type(made), len(made)), (tuple, many))
                    self.assertEqual(rule_row(figures, list(poly), list(first), many), made)

    def test_a_row_that_is_known(self):
        figures = Figures(0)
        made = rule_row(figures, numbers(figures, (-1, -1, 1)), numbers(figures, (0, 1)), 12)
        self.assertEqual(made, numbers(figures, (0, 1, 1, 2, 3, 5, 8, 13, 21, 34, 55, 89)))
        self.assertEqual(rule_row(Figures(5), (1, 0, 1), (1, 2), 5), (1, 2, 4, 3, 1))
        half = (1, 2)
        self.assertEqual(rule_row(figures, ((-1, 2), (1, 1)), ((1, 1),), 3), ((1, 1), half, (1, 4)))

    def test_refusals_in_their_order(self):
        for figures in all_figures():
            poly = numbers(figures, (1, 1, 1))
            one = figures.one
            for thing, due in bad_polys(figures):
                self.assertEqual(raised(rule_row, figures, thing, None, None), ("BadPoly", due))
            for first, index in bad_letters(figures, 2):
                self.assertEqual(raised(rule_row, figures, poly, first, None), ("BadLetters", ("first", index)))
            for many in BAD_TIMES:
                self.assertEqual(raised(rule_row, figures, poly, (one, one), many), ("BadTimes", ()))


class FilterTest(unittest.TestCase):

    def test_any_right_program_is_used_once(self):
        draw = drawer(302)
        for figures in all_figures():
            for poly in drawn_polys(figures, draw, 1):
                size = len(poly) - 1
                for program in right_programs(figures, draw, poly):
                    taps, first = drawn_row(figures, draw, 2), drawn_row(figures, draw, size)
                    row = rule_by_hand(figures, poly, first, 61)
                    due = filter_by_hand(figures, taps, row)
                    # The results are a rule row of the same poly themselves.
                    self.assertEqual(due, rule_by_hand(figures, poly, due[:size], 60))
                    for many in (0, 1, size, draw.randint(0, 60), 60):
                        made = rule_filter(program, poly, taps, first, many)
                        self.assertIsInstance(made, Long)
                        self.assertEqual((made.results, made.used), (due[:many], len(program)))
                        self.assertIs(type(made.results), tuple)
                    self.assertEqual(rule_filter(program, list(poly), list(taps), list(first), 60).results, due)

    def test_a_wrong_program_is_refused_for_any_count(self):
        for figures in all_figures():
            for poly in (numbers(figures, (0, 1)), numbers(figures, (1, 1, 1))):
                one, size = figures.one, len(poly) - 1
                for program in wrong_programs(figures, poly):
                    for many in (0, 1, 60):
                        self.assertEqual(raised(rule_filter, program, poly, (one, one), (one,) * size, many),
                                         ("NotSuch", ()))

    def test_refusals_in_their_order(self):
        for figures in all_figures():
            one = figures.one
            poly = numbers(figures, (1, 1, 1))
            good = remainder_program(figures, poly)
            self.assertIsNone(raised(rule_filter, good, poly, (one, one), (one, one), 60))
            for program in (good, Program(figures, 1, 1, ()), wrong_programs(figures, poly)[0]):
                for thing, due in bad_polys(figures):
                    self.assertEqual(raised(rule_filter, program, thing, None, None, None), ("BadPoly", due))
                for taps, index in bad_taps(figures):
                    self.assertEqual(raised(rule_filter, program, poly, taps, None, None), ("BadLetters", ("taps", index)))
                for first, index in bad_letters(figures, 2):
                    self.assertEqual(raised(rule_filter, program, poly, (one, one), first, None),
                                     ("BadLetters", ("first", index)))
                for many in BAD_TIMES:
                    self.assertEqual(raised(rule_filter, program, poly, (one, one), (one, one), many), ("BadTimes", ()))

    def test_products_that_do_nothing_count(self):
        figures = Figures(5)
        program = with_more(remainder_program(figures, (1, 0, 1)), idle_product(figures, 2, 2))
        made = rule_filter(program, (1, 0, 1), (1, 1), (1, 2), 3)
        self.assertEqual((made.results, made.used), ((3, 1, 2), 3))


class SilentTest(unittest.TestCase):

    def judge(self, figures, poly, taps):
        """There is a silent row exactly if the taps are lost, and its numbers are the ones told."""
        made = silent_row(figures, poly, taps)
        zero, one, size = figures.zero, figures.one, len(poly) - 1
        self.assertEqual(made is None, isinstance(undo_taps(figures, poly, taps), Undone))
        if made is None:
            return None
        if tuple(taps) == (zero, zero):
            self.assertEqual(made, (one,) + (zero,) * (size - 1))
        else:
            root = figures.negative(figures.over(taps[0], taps[1]))
            self.assertIn(root, roots_of(figures, poly))
            for place in range(1, size):
                self.assertEqual(made[place], figures.times(made[place - 1], root))
            self.assertEqual(made[0], one)
        self.assertEqual((type(made), len(made)), (tuple, size))
        self.assertEqual(plain_filter(figures, taps, rule_row(figures, poly, made, 60)), (zero,) * 59)
        return made

    def test_drawn_taps(self):
        draw = drawer(303)
        for figures in all_figures():
            zero, one = figures.zero, figures.one
            for poly in drawn_polys(figures, draw, 2):
                for _ in range(3):
                    taps = drawn_row(figures, draw, 2)
                    self.assertEqual(self.judge(figures, poly, taps), silent_row(figures, list(poly), list(taps)))
                for root in roots_of(figures, poly):
                    taps = tuple(figures.times(figures.negative(one), number) for number in (figures.negative(root), one))
                    self.assertIsNotNone(self.judge(figures, poly, taps))
                self.assertIsNotNone(self.judge(figures, poly, (zero, zero)))
                self.assertIsNone(self.judge(figures, poly, (one, zero)))
                self.assertEqual(self.judge(figures, poly, (zero, one)) is not None, poly[0] == zero)

    def test_no_other_rows_by_small_primes(self):
        # All beginnings but that of zeros: some are silent exactly if the program tells one.
        for prime in (2, 3):
            figures = Figures(prime)
            for degree in range(1, prime + 1):
                for below in itertools.product(range(prime), repeat=degree):
                    poly = below + (1,)
                    for taps in itertools.product(range(prime), repeat=2):
                        due = [first for first in itertools.product(range(prime), repeat=degree) if any(first)
                               and not any(filter_by_hand(figures, taps, rule_by_hand(figures, poly, first, 12)))]
                        made = self.judge(figures, poly, taps)
                        self.assertEqual(made is not None, bool(due))
                        self.assertTrue(made is None or made in due)

    def test_long_numbers(self):
        figures = Figures(0)
        draw = drawer(304)
        roots = [long_number(draw) for _ in range(5)]
        poly = poly_of_roots(figures, roots)
        self.assertIsNotNone(silent_row(figures, poly, (figures.negative(roots[2]), figures.one)))
        self.assertIsNone(silent_row(figures, poly, (roots[2], figures.one)))

    def test_example(self):
        figures = Figures(5)
        self.assertEqual(self.judge(figures, (1, 0, 1), (3, 1)), (1, 2))
        made = undo_taps(figures, (1, 0, 1), (3, 1))
        self.assertIsInstance(made, Lost)
        self.assertIsNone(self.judge(figures, (1, 0, 1), (1, 1)))

    def test_refusals(self):
        for figures in all_figures():
            for deed in (silent_row, undo_taps):
                for thing, due in bad_polys(figures):
                    self.assertEqual(raised(deed, figures, thing, None), ("BadPoly", due))
                for taps, index in bad_taps(figures):
                    self.assertEqual(raised(deed, figures, numbers(figures, (1, 0, 1)), taps),
                                     ("BadLetters", ("taps", index)))


if __name__ == "__main__":
    unittest.main()
