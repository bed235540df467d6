"""Promises 4.07, 4.18: remainders by programs, powers, couples of taps undone [6.10] to [6.12]."""

import itertools
import unittest

from drawnprograms import drawn_row, idle_product, sum_of, with_more
from helpers import all_figures, drawer, drawn_invertible, long_number, most_sides, numbers, raised
from secondway import plainly_apart
from sparedproducts.blocks import square_pair
from sparedproducts.factors import roots_of
from sparedproducts.figures import Figures
from sparedproducts.filters import plain_times
from sparedproducts.longrows import Long
from sparedproducts.making import least_program, plain_program
from sparedproducts.polys import poly_of_roots
from sparedproducts.programs import Program
from sparedproducts.remainders import Lost, Undone, plain_remainder, power_by_remainder, remainder_program
from sparedproducts.remainders import run_remainder, times_all, undo_taps
from sparedproducts.solving import undone_table
from sparedproducts.squareprograms import block_program, extra_program
from sparedproducts.turnedabout import turned_about
from test_filters import not_numbers
from test_longrows import bad_rows, bad_taps
from test_squareprograms import bad_polys, drawn_led_poly, unlike_numbers


def remainder_by_hand(figures, poly, row):
    """The remainder by taking away multiples of the poly, the highest power first."""
    rest = list(row)
    size = len(poly) - 1
    while len(rest) > size:
        high = rest.pop()
        for place in range(size):
            at = len(rest) - size + place
            rest[at] = figures.minus(rest[at], figures.times(high, poly[place]))
    return tuple(rest) + (figures.zero,) * (size - len(rest))


def drawn_polys(figures, draw, many):
    """Polys of every degree, some of them with roots enough."""
    for degree in range(1, most_sides(figures) + 1):
        for _ in range(many):
            yield drawn_led_poly(figures, draw, degree)
        yield poly_of_roots(figures, unlike_numbers(figures, draw, degree))
        yield (figures.zero,) * degree + (figures.one,)


def right_programs(figures, draw, poly):
    due = square_pair(figures, poly)
    size = len(poly) - 1
    made = [remainder_program(figures, poly), plain_program(due), least_program(due).program,
            extra_program(figures, poly, unlike_numbers(figures, draw, size))]
    made.append(with_more(made[0], idle_product(figures, size, size)))
    table, mix = drawn_invertible(figures, draw, size), drawn_invertible(figures, draw, 2)
    undone = undone_table(figures, table)
    made.append(made[0].led(table, undone).led(undone, table).tidy())
    made.append(made[0].mixed(mix).mixed(undone_table(figures, mix)))
    return made


def wrong_programs(figures, poly):
    size = len(poly) - 1
    other = size % most_sides(figures) + 1
    made = remainder_program(figures, poly)
    less = made.products[1:]
    return [Program(figures, size, size, ()), Program(figures, size, size, less), Program(figures, other, size, ()),
            Program(figures, size, other, ()), Program(figures, other, other, ()),
            with_more(made, ((figures.one,) * size, (figures.one,) * size, figures.zero, figures.one))]


class PlainTest(unittest.TestCase):

    def test_remainders(self):
        draw = drawer(251)
        for figures in all_figures():
            for poly in drawn_polys(figures, draw, 2):
                for many in (1, 2, 4, 5, 6, 9, 60):
                    row = drawn_row(figures, draw, many, 0.7)
                    made = plain_remainder(figures, poly, row)
                    self.assertEqual(made, remainder_by_hand(figures, poly, row))
                    self.assertIs(type(made), tuple)
                    self.assertEqual(plain_remainder(figures, list(poly), list(row)), made)
                self.assertEqual(plain_remainder(figures, poly, (figures.zero,) * 7), (figures.zero,) * (len(poly) - 1))
                self.assertEqual(plain_remainder(figures, poly, poly), (figures.zero,) * (len(poly) - 1))

    def test_refusals(self):
        for figures in all_figures():
            one = figures.one
            for thing, due in bad_polys(figures):
                self.assertEqual(raised(plain_remainder, figures, thing, None), ("BadPoly", due))
                self.assertEqual(raised(remainder_program, figures, thing), ("BadPoly", due))
            for row, index in bad_rows(figures, 1, 60):
                self.assertEqual(raised(plain_remainder, figures, (one, one), row), ("BadRow", ("numbers", index)))

    def test_programs(self):
        # As many products as the degree exactly if the poly comes apart, else one more.
        draw = drawer(252)
        for figures in all_figures():
            for degree in range(1, most_sides(figures) + 1):
                polys = [drawn_led_poly(figures, draw, degree) for _ in range(4)]
                known = [(poly, plainly_apart(figures, poly)) for poly in polys]
                known.append((poly_of_roots(figures, unlike_numbers(figures, draw, degree)), True))
                known.append(((figures.zero,) * degree + (figures.one,), degree == 1))
                for poly, apart in known:
                    made = remainder_program(figures, poly)
                    self.assertEqual(made, block_program(figures, ("square", poly)))
                    self.assertEqual(len(made), degree + (not apart))


class RunTest(unittest.TestCase):

    def test_any_right_program(self):
        draw = drawer(253)
        for figures in all_figures():
            for poly in drawn_polys(figures, draw, 1):
                for program in right_programs(figures, draw, poly):
                    taps, row = drawn_row(figures, draw, 2), drawn_row(figures, draw, len(poly) - 1)
                    made = run_remainder(program, poly, taps, row)
                    self.assertIs(type(made), tuple)
                    self.assertEqual(made, remainder_by_hand(figures, poly, plain_times(figures, taps, row)))
                    self.assertEqual(made, plain_remainder(figures, poly, plain_times(figures, taps, row)))
                    self.assertEqual(run_remainder(program, list(poly), list(taps), list(row)), made)

    def test_refusals_in_their_order(self):
        draw = drawer(254)
        for figures in all_figures():
            one = figures.one
            for poly in (numbers(figures, (0, 1)), numbers(figures, (1, 1, 1))):
                size = len(poly) - 1
                good = remainder_program(figures, poly)
                for program in [good] + wrong_programs(figures, poly)[:3]:
                    for thing, due in bad_polys(figures):
                        self.assertEqual(raised(run_remainder, program, thing, None, None), ("BadPoly", due))
                    for taps, index in bad_taps(figures):
                        self.assertEqual(raised(run_remainder, program, poly, taps, None), ("BadLetters", ("taps", index)))
                    for row, index in ((None, 0), ((), 0), ((one,) * (size + 1), size), ((one,) * (size - 1), size - 1)):
                        self.assertEqual(raised(run_remainder, program, poly, (one, one), row),
                                         ("BadLetters", ("letters", index)))
                    for thing in not_numbers(figures):
                        self.assertEqual(raised(run_remainder, program, poly, (one, one), (one,) * (size - 1) + (thing,)),
                                         ("BadLetters", ("letters", size - 1)))
                for program in wrong_programs(figures, poly):
                    self.assertEqual(raised(run_remainder, program, poly, (one, one), (one,) * size), ("NotSuch", ()))
            # A program that is right for another poly.
            for poly in drawn_polys(figures, draw, 1):
                other = (figures.plus(poly[0], one),) + poly[1:]
                program = remainder_program(figures, other)
                self.assertEqual(raised(run_remainder, program, poly, (one, one), poly[1:]), ("NotSuch", ()))

    def test_one_by_one_in_any_order(self):
        draw = drawer(255)
        for figures in all_figures():
            for poly in drawn_polys(figures, draw, 1):
                program = draw.choice(right_programs(figures, draw, poly))
                couples = [drawn_row(figures, draw, 2) for _ in range(draw.randint(0, 4))]
                row = drawn_row(figures, draw, len(poly) - 1)
                due = row
                for couple in couples:
                    due = plain_times(figures, due, couple)
                due = remainder_by_hand(figures, poly, due)
                for order in itertools.islice(itertools.permutations(couples), 4):
                    made = times_all(program, poly, order, row)
                    self.assertIsInstance(made, Long)
                    self.assertEqual((made.results, made.used), (due, len(program) * len(couples)))
                    self.assertIs(type(made.results), tuple)
                self.assertEqual(times_all(program, list(poly), [list(couple) for couple in couples], list(row)).results,
                                 due)
                made = times_all(program, poly, (), list(row))
                self.assertEqual((made.results, made.used), (row, 0))
            made = times_all(program, poly, [(figures.one,) * 2] * 12, row)
            self.assertEqual(made.used, 12 * len(program))

    def test_refusals_of_many(self):
        for figures in all_figures():
            one = figures.one
            poly = numbers(figures, (1, 0, 1))
            good = remainder_program(figures, poly)
            for program in (good, Program(figures, 1, 1, ())):
                for thing, due in bad_polys(figures):
                    self.assertEqual(raised(times_all, program, thing, None, None), ("BadPoly", due))
                for thing, index in ((None, 0), ([(one, one)] * 13, 0), ([None], 0), ([(one, one), (one,)], 1),
                                     ([(one, True), None], 0)):
                    self.assertEqual(raised(times_all, program, poly, thing, None), ("BadTaps", (index,)))
                for row, index in ((None, 0), ((one,), 1), ((one,) * 3, 2), ((one, None), 1)):
                    self.assertEqual(raised(times_all, program, poly, [(one, one)], row), ("BadLetters", ("letters", index)))
            for program in wrong_programs(figures, poly):
                for couples in ((), [(one, one)]):
                    self.assertEqual(raised(times_all, program, poly, couples, (one, one)), ("NotSuch", ()))


class PowerTest(unittest.TestCase):

    def test_powers(self):
        draw = drawer(256)
        for figures in all_figures():
            for poly in drawn_polys(figures, draw, 1):
                program = draw.choice(right_programs(figures, draw, poly))
                taps = drawn_row(figures, draw, 2)
                due = (figures.one,) + (figures.zero,) * (len(poly) - 2)
                for times in range(8):
                    made = power_by_remainder(program, poly, list(taps), times)
                    self.assertIsInstance(made, Long)
                    self.assertEqual((made.results, made.used), (due, times * len(program)))
                    due = remainder_by_hand(figures, poly, plain_times(figures, taps, due))
        figures = Figures(13)
        poly = (1, 2, 0, 1)
        made = power_by_remainder(remainder_program(figures, poly), poly, (0, 1), 60)
        self.assertEqual(made.results, remainder_by_hand(figures, poly, (0,) * 60 + (1,)))

    def test_refusals_in_their_order(self):
        for figures in all_figures():
            one = figures.one
            poly = numbers(figures, (1, 0, 1))
            good = remainder_program(figures, poly)
            for program in (good, Program(figures, 1, 1, ())):
                for thing, due in bad_polys(figures):
                    self.assertEqual(raised(power_by_remainder, program, thing, None, None), ("BadPoly", due))
                for taps, index in bad_taps(figures):
                    self.assertEqual(raised(power_by_remainder, program, poly, taps, None), ("BadLetters", ("taps", index)))
                for times in (-1, 61, True, False, None, "1", 1.0, (1,), 10 ** 20):
                    self.assertEqual(raised(power_by_remainder, program, poly, (one, one), times), ("BadTimes", ()))
            for program in wrong_programs(figures, poly):
                for times in (0, 2):
                    self.assertEqual(raised(power_by_remainder, program, poly, (one, one), times), ("NotSuch", ()))
            self.assertIsNone(raised(power_by_remainder, good, poly, (one, one), 60))


class UndoTest(unittest.TestCase):

    def judge(self, figures, poly, taps):
        made = undo_taps(figures, poly, taps)
        size = len(poly) - 1
        one = (figures.one,) + (figures.zero,) * (size - 1)
        self.assertEqual(len(made.numbers), size)
        self.assertIs(type(made.numbers), tuple)
        product = remainder_by_hand(figures, poly, plain_times(figures, taps, made.numbers))
        if isinstance(made, Undone):
            self.assertEqual(product, one)
            self.assertTrue(any(tap != figures.zero for tap in taps))
        else:
            self.assertIsInstance(made, Lost)
            self.assertEqual(product, (figures.zero,) * size)
            self.assertTrue(any(number != figures.zero for number in made.numbers))
        lost = taps == (figures.zero,) * 2
        if taps[1] != figures.zero:
            root = figures.negative(figures.over(taps[0], taps[1]))
            lost = root in roots_of(figures, poly)
            if lost:
                straight = (figures.negative(root), figures.one)
                self.assertEqual(plain_times(figures, straight, made.numbers), tuple(poly))
        elif lost:
            self.assertEqual(made.numbers, one)
        self.assertEqual(isinstance(made, Lost), lost)
        return made

    def test_drawn_taps(self):
        draw = drawer(257)
        for figures in all_figures():
            for poly in drawn_polys(figures, draw, 3):
                for _ in range(4):
                    taps = drawn_row(figures, draw, 2)
                    made = self.judge(figures, poly, taps)
                    self.assertEqual(undo_taps(figures, list(poly), list(taps)).numbers, made.numbers)
                self.judge(figures, poly, (figures.zero,) * 2)
                self.judge(figures, poly, (figures.one, figures.zero))
                for root in roots_of(figures, poly):
                    self.judge(figures, poly, (figures.negative(root), figures.one))

    def test_all_taps_by_small_primes(self):
        for prime in (2, 3, 5):
            figures = Figures(prime)
            for degree in (1, 2, 3)[:prime]:
                for below in itertools.product(range(prime), repeat=degree):
                    if degree < 3 or sum(below) % 3 == 1:
                        for taps in itertools.product(range(prime), repeat=2):
                            self.judge(figures, below + (1,), taps)

    def test_long_numbers(self):
        figures = Figures(0)
        draw = drawer(258)
        roots = [long_number(draw) for _ in range(5)]
        poly = poly_of_roots(figures, roots)
        self.judge(figures, poly, (figures.negative(roots[3]), figures.one))
        self.judge(figures, poly, (long_number(draw), long_number(draw)))

    def test_examples(self):
        figures = Figures(5)
        poly = (1, 0, 1)
        self.assertEqual(len(remainder_program(figures, poly)), 2)
        self.assertEqual(self.judge(figures, poly, (1, 1)).numbers, (3, 2))
        made = self.judge(figures, poly, (3, 1))
        self.assertEqual(made.numbers, (2, 1))
        self.assertIsInstance(made, Lost)

    def test_refusals(self):
        for figures in all_figures():
            for thing, due in bad_polys(figures):
                self.assertEqual(raised(undo_taps, figures, thing, None), ("BadPoly", due))
            for taps, index in bad_taps(figures):
                self.assertEqual(raised(undo_taps, figures, numbers(figures, (1, 0, 1)), taps),
                                 ("BadLetters", ("taps", index)))

    def test_results_keep_what_they_are_given(self):
        self.assertEqual((Undone([1]).numbers, Lost(None).numbers), ([1], None))
        self.assertFalse(Undone(1) == Undone(1))
        self.assertFalse(Lost(1) == Lost(1))


class SumsTest(unittest.TestCase):

    def test_by_y_the_rule_goes_on(self):
        # The same program by "y" is the filter over a row that the poly carries on.
        draw = drawer(259)
        for figures in all_figures():
            for poly in drawn_polys(figures, draw, 1):
                size = len(poly) - 1
                row = list(drawn_row(figures, draw, size))
                row.append(figures.negative(sum_of(figures, [figures.times(*both) for both in zip(poly, row)])))
                taps = drawn_row(figures, draw, 2)
                due = tuple(figures.plus(figures.times(taps[0], one), figures.times(taps[1], other))
                            for one, other in zip(row, row[1:]))
                self.assertEqual(turned_about(remainder_program(figures, poly), by="y")(taps, row[:size]), due)


if __name__ == "__main__":
    unittest.main()
