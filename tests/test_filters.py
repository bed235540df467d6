"""Promises 4.05, 4.24: filters and products, plainly and by programs, and taps that come apart [6.4] to [6.6]."""

import itertools
import unittest

from drawnprograms import drawn_row, sum_of
from helpers import PRIMES, all_figures, drawer, drawn_number, fraction, long_number, most_sides, numbers, raised
from secondway import plain_roots
from sparedproducts.blocks import standing_pair
from sparedproducts.counts import fewest_of
from sparedproducts.figures import Figures
from sparedproducts.filters import check_row, filter_pair, filter_program, plain_filter, plain_times, taps_apart
from sparedproducts.lyingprograms import standing_program
from sparedproducts.making import plain_program
from sparedproducts.programs import Program, is_right
from sparedproducts.turnedabout import turned_about
from test_points import drawn_points


def not_numbers(figures):
    return [True, None, "1", 1.0, [figures.one]] + ([figures.prime, -1, (1, 1)] if figures.prime
                                                    else [1, (2, 2), [1, 1], (1, 0)])


def filter_by_hand(figures, taps, row):
    return tuple(sum_of(figures, [figures.times(tap, row[place + at]) for at, tap in enumerate(taps)])
                 for place in range(len(row) - len(taps) + 1))


def times_by_hand(figures, one, other):
    made = [figures.zero] * (len(one) + len(other) - 1)
    for i, number in enumerate(one):
        for j, more in enumerate(other):
            made[i + j] = figures.plus(made[i + j], figures.times(number, more))
    return tuple(made)


class PlainTest(unittest.TestCase):

    def test_filters(self):
        draw = drawer(221)
        for figures in all_figures():
            for many, long in ((1, 1), (1, 60), (2, 2), (2, 7), (3, 9), (5, 5), (13, 13), (13, 60)):
                taps, row = drawn_row(figures, draw, many), drawn_row(figures, draw, long)
                due = filter_by_hand(figures, taps, row)
                self.assertEqual(plain_filter(figures, taps, row), due)
                self.assertEqual(plain_filter(figures, list(taps), list(row)), due)
                self.assertEqual(len(due), long - many + 1)

    def test_times(self):
        draw = drawer(222)
        for figures in all_figures():
            for many, more in ((1, 1), (1, 4), (4, 1), (2, 3), (3, 2), (5, 5), (60, 60), (60, 1)):
                one, other = drawn_row(figures, draw, many, 0.6), drawn_row(figures, draw, more, 0.6)
                due = times_by_hand(figures, one, other)
                self.assertEqual(plain_times(figures, one, other), due)
                self.assertEqual(plain_times(figures, list(other), list(one)), due)
                self.assertEqual(len(due), many + more - 1)
            zero, one = figures.zero, figures.one
            self.assertEqual(plain_times(figures, (one, zero), (zero, one, zero)), (zero, one, zero, zero))
            self.assertEqual(plain_times(figures, (zero,), (zero, zero)), (zero, zero))

    def test_refusals(self):
        for figures in all_figures():
            one = figures.one
            cases = ((plain_filter, "taps", 1, 13, "row", 60), (plain_times, "one", 1, 60, "other", 60))
            for deed, first, low, high, second, most in cases:
                good = (one,) * 3
                for thing in (None, 3, "abc", {}, (), (one,) * (high + 1), (None,) * (high + 1)):
                    self.assertEqual(raised(deed, figures, thing, None), ("BadRow", (first, 0)))
                for thing in not_numbers(figures):
                    self.assertEqual(raised(deed, figures, (one, one, thing, thing), good), ("BadRow", (first, 2)))
                    self.assertEqual(raised(deed, figures, [thing], None), ("BadRow", (first, 0)))
                    self.assertEqual(raised(deed, figures, good, good + (thing,)), ("BadRow", (second, 3)))
                for thing in (None, 3, "abcd", {}, (), (one,) * (most + 1)):
                    self.assertEqual(raised(deed, figures, good, thing), ("BadRow", (second, 0)))
            self.assertEqual(raised(plain_filter, figures, (one,) * 3, (one,) * 2), ("BadRow", ("row", 0)))
            self.assertIsNone(raised(plain_filter, figures, (one,) * 13, (one,) * 13))
            self.assertEqual(raised(plain_filter, figures, (one,) * 13, (one,) * 12), ("BadRow", ("row", 0)))
            self.assertEqual(raised(plain_times, figures, (one,), ()), ("BadRow", ("other", 0)))

    def test_checked_rows(self):
        for figures in all_figures():
            one = figures.one
            self.assertEqual(check_row(figures, [one, one], 2, 2, "any"), (one, one))
            self.assertEqual(check_row(figures, (), 0, 3, "any"), ())
            for thing in (None, "ab", {one: one}, 3, [one], [one] * 5, (None,) * 5):
                self.assertEqual(raised(check_row, figures, thing, 2, 4, "word"), ("BadRow", ("word", 0)))
            for thing in not_numbers(figures):
                self.assertEqual(raised(check_row, figures, [one, thing, thing], 2, 4, "w"), ("BadRow", ("w", 1)))


class ApartTest(unittest.TestCase):

    def judge(self, figures, taps, roots):
        """The couples by the words of [6.5]; roots are those of the taps as a poly, or None if not all are."""
        made = taps_apart(figures, taps)
        if roots is None:
            self.assertIsNone(made)
            return
        zero, one = figures.zero, figures.one
        self.assertIs(type(made), tuple)
        self.assertTrue(all(type(couple) is tuple for couple in made))
        self.assertEqual(len(made), len(taps) - 1)
        product = (one,)
        for couple in made:
            product = times_by_hand(figures, product, couple)
        self.assertEqual(product, tuple(taps))
        if all(tap == zero for tap in taps):
            self.assertEqual(made, ((zero, zero),) + ((one, zero),) * (len(taps) - 2))
            return
        high = max(place for place, tap in enumerate(taps) if tap != zero)
        due = [(figures.negative(root), one) for root in roots] + [(one, zero)] * (len(taps) - 1 - high)
        self.assertEqual(made[1:], tuple(due[1:]))
        self.assertEqual(made[0], tuple(figures.times(taps[high], number) for number in due[0]))

    def all_roots(self, figures, taps):
        """Each root as often as it is one, ascending, of taps of small numbers; None if they are not enough."""
        poly = list(taps)
        while poly and poly[-1] == figures.zero:
            poly.pop()
        if not poly:
            return []
        roots = []
        for root in plain_roots(figures, tuple(poly)):
            while len(poly) > 1:
                quotient, rest = self.divided(figures, poly, root)
                if rest != figures.zero:
                    break
                poly = quotient
                roots.append(root)
        return roots if len(poly) == 1 else None

    def divided(self, figures, poly, root):
        made = []
        carry = figures.zero
        for number in poly[::-1]:
            carry = figures.plus(figures.times(carry, root), number)
            made.append(carry)
        return made[:-1][::-1], carry

    def test_all_taps_by_small_primes(self):
        for prime, most in ((2, 7), (3, 5), (5, 3)):
            figures = Figures(prime)
            for many in range(2, most + 1):
                for taps in itertools.product(range(prime), repeat=many):
                    self.judge(figures, taps, self.all_roots(figures, taps))

    def test_products_of_couples(self):
        draw = drawer(223)
        for figures in all_figures():
            for many in range(2, 13):
                for _ in range(3):
                    taps = (figures.one,)
                    for _ in range(many - 1):
                        taps = times_by_hand(figures, taps, drawn_row(figures, draw, 2, 0.8))
                    self.judge(figures, taps, self.all_roots(figures, taps) if many < 7 or figures.prime
                               else self.known(figures, taps))

    def known(self, figures, taps):
        """The roots read off the couples, sorted anew: products of couples always come apart."""
        made = taps_apart(figures, taps)
        self.assertIsNotNone(made)
        if all(tap == figures.zero for tap in taps):
            return []
        roots = [figures.negative(figures.over(low, high)) for low, high in made if high != figures.zero]
        return sorted(roots, key=fraction)

    def test_drawn_taps(self):
        draw = drawer(224)
        for figures in all_figures():
            for many in (2, 3, 4, 5):
                for _ in range(8):
                    taps = drawn_row(figures, draw, many, 0.7)
                    self.judge(figures, taps, self.all_roots(figures, taps))
                    self.assertEqual(taps_apart(figures, list(taps)), taps_apart(figures, taps))

    def test_long_numbers(self):
        figures = Figures(0)
        draw = drawer(225)
        roots = sorted([long_number(draw, 15) for _ in range(4)] * 2, key=fraction)
        taps = (long_number(draw, 5),)
        for root in roots:
            taps = times_by_hand(figures, taps, (figures.negative(root), figures.one))
        self.judge(figures, taps + (figures.zero,) * 3, roots)
        self.assertIsNone(taps_apart(figures, times_by_hand(figures, taps, numbers(figures, (1, 0, 1)))))

    def test_written_out(self):
        figures = Figures(0)
        zero, one = figures.zero, figures.one
        self.assertEqual(taps_apart(figures, (zero, zero)), ((zero, zero),))
        self.assertEqual(taps_apart(figures, (zero,) * 4), ((zero, zero), (one, zero), (one, zero)))
        self.assertEqual(taps_apart(figures, numbers(figures, (3, 0))), (numbers(figures, (3, 0)),))
        self.assertEqual(taps_apart(figures, numbers(figures, (3, 0, 0))), (numbers(figures, (3, 0)), (one, zero)))
        self.assertEqual(taps_apart(figures, numbers(figures, (0, 5))), (numbers(figures, (0, 5)),))
        self.assertEqual(taps_apart(figures, numbers(figures, (4, -6, 2, 0))),
                         (numbers(figures, (-2, 2)), numbers(figures, (-2, 1)), (one, zero)))
        self.assertEqual(taps_apart(figures, numbers(figures, (2, 4, 2))),
                         (numbers(figures, (2, 2)), numbers(figures, (1, 1))))
        self.assertIsNone(taps_apart(figures, numbers(figures, (1, 0, 1))))
        self.assertEqual(taps_apart(Figures(5), (1, 0, 1)), ((3, 1), (2, 1)))
        self.assertEqual(taps_apart(Figures(2), (1, 0, 1)), ((1, 1), (1, 1)))

    def test_refusals(self):
        for figures in all_figures():
            one = figures.one
            for thing in (None, 3, "ab", {}, (), (one,), (one,) * 13, (None,) * 13):
                self.assertEqual(raised(taps_apart, figures, thing), ("BadRow", ("taps", 0)))
            for thing in not_numbers(figures):
                self.assertEqual(raised(taps_apart, figures, (one, thing, thing)), ("BadRow", ("taps", 1)))
            self.assertIsNone(raised(taps_apart, figures, (one,) * 12))


class ProgramTest(unittest.TestCase):

    def test_pairs(self):
        for figures in all_figures():
            for results in range(1, most_sides(figures)):
                self.assertEqual(filter_pair(figures, results), standing_pair(figures, results))
                self.assertEqual(len(plain_program(filter_pair(figures, results))), 2 * results)
            for thing in (0, 5, -1, True, None, "1", 1.0) + ((figures.prime,) if figures.prime else ()):
                self.assertEqual(raised(filter_pair, figures, thing), ("BadSize", ()))
                self.assertEqual(raised(filter_program, figures, thing), ("BadSize", ()))
                self.assertEqual(raised(filter_program, figures, thing, ()), ("BadSize", ()))

    def serve(self, figures, draw, results, program):
        """One program as a filter and as a product with a straight poly."""
        taps = drawn_row(figures, draw, 2)
        row, poly = drawn_row(figures, draw, results + 1), drawn_row(figures, draw, results)
        self.assertEqual(turned_about(program, by="y")(taps, row), plain_filter(figures, taps, row))
        self.assertEqual(turned_about(program, by="x")(taps, poly), plain_times(figures, taps, poly))

    def test_at_all_lots_of_points(self):
        draw = drawer(226)
        for figures in all_figures():
            for results in range(1, most_sides(figures)):
                lots = [drawn_points(figures, draw, results + 1) for _ in range(6)]
                if figures.prime and figures.prime < 6:
                    lots = list(itertools.permutations(list(figures.all_numbers()) + ["last"], results + 1))[::5]
                for points in lots:
                    made = filter_program(figures, results, list(points))
                    self.assertEqual(made, standing_program(figures, results, points))
                    self.assertEqual(len(made), results + 1)
                    self.assertTrue(is_right(filter_pair(figures, results), made))
                    self.serve(figures, draw, results, made)
                self.assertEqual(filter_program(figures, results), standing_program(figures, results))
                self.assertEqual(filter_program(figures, results, points=None), standing_program(figures, results))
                self.assertEqual(fewest_of(filter_pair(figures, results)).number, results + 1)

    def test_any_right_program(self):
        draw = drawer(227)
        for figures in all_figures():
            for results in range(1, most_sides(figures)):
                self.serve(figures, draw, results, plain_program(filter_pair(figures, results)))

    def test_points_are_refused(self):
        for figures in all_figures():
            one = figures.one
            for thing in ((), [], "last", (one,), (one, "last", figures.zero)):
                self.assertEqual(raised(filter_program, figures, 1, thing), ("BadPoints", (0,)))
            self.assertEqual(raised(filter_program, figures, 1, ("last", "last")), ("BadPoints", (1,)))
            self.assertEqual(raised(filter_program, figures, 1, (one, None)), ("BadPoints", (1,)))

    def test_example(self):
        figures = Figures(5)
        made = filter_program(figures, 2)
        self.assertEqual(made.products, (((1, 1, 3), (1, 0), 1, 0), ((0, 2, 4), (1, 1), 1, 1),
                                         ((0, 2, 3), (1, 2), 1, 2)))
        self.assertIsInstance(made, Program)

    def test_every_prime_has_a_filter(self):
        draw = drawer(228)
        for prime in PRIMES:
            figures = Figures(prime)
            self.serve(figures, draw, 1, filter_program(figures, 1, ("last", drawn_number(figures, draw))))


if __name__ == "__main__":
    unittest.main()
