"""Promise 2.07: roots and straight factors [3.6], [3.7]."""

import itertools
import unittest

from helpers import PRIMES, all_figures, drawer, fraction, long_number, numbers, raised
from sparedproducts.factors import Parts, comes_apart, has_twice, parts_of, roots_of, times_of
from sparedproducts.figures import Figures
from sparedproducts.polys import poly_of_roots, poly_times, value_at

ALL_DEEDS = (roots_of, comes_apart, parts_of, has_twice)


def scaled(figures, number, poly):
    return tuple(figures.times(number, part) for part in poly)


def ascending(roots):
    return tuple(sorted(roots, key=fraction))


def rebuilt(figures, parts):
    made = scaled(figures, parts.lead, parts.rest)
    for root, times in parts.roots:
        for _ in range(times):
            made = poly_times(figures, made, poly_of_roots(figures, (root,)))
    return made


class RefusalsTest(unittest.TestCase):

    def test_polys_are_checked(self):
        for figures in all_figures():
            one, zero = figures.one, figures.zero
            for thing, due in ((None, (0, "many")), ((one,) * 13, (0, "many")), ((one, True), (1, "number")),
                               ((one, zero), (1, "last")), ((), (0, "zero")), ([], (0, "zero"))):
                for deed in ALL_DEEDS:
                    self.assertEqual(raised(deed, figures, thing), ("BadPoly", due))
                self.assertEqual(raised(times_of, figures, thing, one), ("BadPoly", due))


class PrimesTest(unittest.TestCase):

    def test_all_small_polys(self):
        for prime, most in ((2, 6), (3, 4), (5, 3)):
            figures = Figures(prime)
            for degree in range(most + 1):
                for lead in range(1, prime):
                    for numbers_below in itertools.product(range(prime), repeat=degree):
                        self.judge(figures, numbers_below + (lead,))

    def test_drawn_polys_of_every_degree(self):
        draw = drawer(45)
        for prime in PRIMES:
            figures = Figures(prime)
            for degree in range(12):
                for _ in range(6):
                    poly = tuple(draw.randrange(prime) for _ in range(degree)) + (draw.randrange(1, prime),)
                    self.judge(figures, poly)
                roots = tuple(draw.randrange(prime) for _ in range(degree))
                self.judge(figures, poly_of_roots(figures, roots))

    def judge(self, figures, poly):
        roots = tuple(r for r in range(figures.prime) if value_at(figures, poly, r) == 0)
        self.assertEqual(roots_of(figures, list(poly)), roots)
        apart = len(roots) == len(poly) - 1
        self.assertEqual(comes_apart(figures, poly), roots if apart else None)
        parts = parts_of(figures, poly)
        self.assertEqual(rebuilt(figures, parts), poly)
        self.assertEqual(tuple(root for root, _ in parts.roots), roots)
        self.assertEqual(tuple(times_of(figures, poly, root) for root in roots), tuple(t for _, t in parts.roots))
        self.assertEqual(parts.rest[-1], 1)
        self.assertTrue(all(value_at(figures, parts.rest, number) for number in range(figures.prime)))
        self.assertEqual(apart, len(parts.rest) == 1 and not has_twice(figures, poly))

    def test_known_ones(self):
        due = {2: None, 3: None, 5: (2, 3), 7: None, 11: None, 13: (5, 8), 0: None}
        for figures in all_figures():
            square = numbers(figures, (1, 0, 1))
            self.assertEqual(comes_apart(figures, square), due[figures.prime])
        self.assertEqual(parts_of(Figures(2), (1, 0, 1)).roots, ((1, 2),))
        for prime in PRIMES:
            figures = Figures(prime)
            # t ** p - t has all numbers as roots.
            if prime < 12:
                made = (0, prime - 1) + (0,) * (prime - 2) + (1,)
                self.assertEqual(comes_apart(figures, made), tuple(range(prime)))
                # t ** p + 1 is the poly (t + 1) ** p, whose slope is the zero poly.
                made = (1,) + (0,) * (prime - 1) + (1,)
                self.assertIs(has_twice(figures, made), True)
                self.assertEqual(parts_of(figures, made).roots, ((prime - 1, prime),))
                self.assertEqual(times_of(figures, made, prime - 1), prime)

    def test_twice_without_roots(self):
        figures = Figures(3)
        square = (1, 0, 1)
        self.assertIs(has_twice(figures, square), False)
        self.assertIs(has_twice(figures, poly_times(figures, square, square)), True)
        self.assertEqual(roots_of(figures, poly_times(figures, square, square)), ())


class FractionsTest(unittest.TestCase):

    def setUp(self):
        self.figures = Figures(0)

    def test_degree_nought(self):
        for figures in all_figures():
            poly = (figures.one,)
            self.assertEqual(roots_of(figures, poly), ())
            self.assertEqual(comes_apart(figures, poly), ())
            self.assertIs(has_twice(figures, poly), False)
            self.assertEqual(times_of(figures, poly, figures.zero), 0)
            parts = parts_of(figures, poly)
            self.assertEqual((parts.lead, parts.roots, parts.rest), (figures.one, (), (figures.one,)))
        parts = parts_of(self.figures, [(-7, 3)])
        self.assertEqual((parts.lead, parts.roots, parts.rest), ((-7, 3), (), ((1, 1),)))

    def test_straight_polys(self):
        for one, other, due in (((3, 1), (2, 1), (-3, 2)), ((0, 1), (5, 7), (0, 1)), ((-1, 6), (1, 4), (2, 3))):
            self.assertEqual(roots_of(self.figures, (one, other)), (due,))
            self.assertEqual(comes_apart(self.figures, [one, other]), (due,))

    def judge(self, roots, rest, lead):
        """All of a poly that is lead times all t - root, times a poly without roots."""
        figures = self.figures
        poly = scaled(figures, lead, poly_times(figures, poly_of_roots(figures, roots), rest))
        due = ascending(set(roots))
        self.assertEqual(roots_of(figures, poly), due)
        couples = tuple((root, roots.count(root)) for root in due)
        parts = parts_of(figures, list(poly))
        self.assertEqual((parts.lead, parts.roots, parts.rest), (lead, couples, rest))
        self.assertIs(type(parts.roots), tuple)
        for root, times in couples:
            self.assertEqual(times_of(figures, poly, root), times)
        self.assertEqual(times_of(figures, poly, (123456789, 7)), 0)
        apart = rest == ((1, 1),) and len(due) == len(roots)
        self.assertEqual(comes_apart(figures, poly), due if apart else None)
        if rest == ((1, 1),):
            self.assertIs(has_twice(figures, poly), len(due) < len(roots))

    def test_short_roots(self):
        draw = drawer(41)
        rests = [numbers(self.figures, poly) for poly in ((1,), (1, 0, 1), (-2, 0, 1), (2, 0, 0, 1), (1, 1, 1))]
        choices = [(0, 1), (1, 1), (-1, 1), (2, 1), (1, 2), (-1, 2), (-3, 7), (30, 1), (210, 1), (1, 210)]
        for _ in range(60):
            roots = [draw.choice(choices) for _ in range(draw.randint(0, 8))]
            self.judge(roots, draw.choice(rests), draw.choice(((1, 1), (-3, 4), (5, 1))))

    def test_long_roots(self):
        draw = drawer(42)
        one = self.figures.one
        for digits, many in ((20, 5), (30, 4), (60, 2), (60, 3)):
            roots = [long_number(draw, digits) for _ in range(many)]
            self.judge(roots, (one,), one)
            self.judge(roots + roots[:2], (one,), long_number(draw, 20))
            self.judge(roots, (long_number(draw, 20), (0, 1), (0, 1), one), (-7, 2))
        roots = [long_number(draw, 5) for _ in range(10)] + [(0, 1)]
        self.judge(roots, (one,), one)

    def test_whole_roots_of_many_digits(self):
        draw = drawer(43)
        roots = [(draw.randint(10 ** 19, 10 ** 20), 1) for _ in range(3)] + [(-(10 ** 20), 1), (0, 1)]
        self.judge(roots, (self.figures.one,), self.figures.one)

    def test_roots_alike_by_many_primes(self):
        # By each of the first primes these roots are one, or the last number is zero.
        many = 2 * 3 * 5 * 7 * 11 * 13 * 17 * 19 * 23 * 29 * 31 * 37
        self.judge([(1, 1), (1 + many, 1), (1 - many, 1)], (self.figures.one,), self.figures.one)
        self.judge([(1, many), (-1, many), (41, many)], (self.figures.one,), self.figures.one)

    def test_no_roots(self):
        draw = drawer(44)
        figures = self.figures
        self.assertEqual(roots_of(figures, numbers(figures, (1, 0, 1))), ())
        self.assertEqual(roots_of(figures, numbers(figures, (-2, 0, 0, 0, 0, 0, 0, 0, 0, 0, 0, 1))), ())
        # By every prime one of 2, 3 and 6 is a square, in fractions none is.
        made = poly_times(figures, poly_times(figures, numbers(figures, (-2, 0, 1)), numbers(figures, (-3, 0, 1))),
                          numbers(figures, (-6, 0, 1)))
        self.assertEqual(roots_of(figures, made), ())
        self.assertIsNone(comes_apart(figures, made))
        self.assertIs(has_twice(figures, made), False)
        self.assertEqual(parts_of(figures, made).rest, made)
        self.assertIs(has_twice(figures, poly_times(figures, numbers(figures, (1, 0, 1)), numbers(figures, (1, 0, 1)))),
                      True)
        long = tuple(long_number(draw, 60) for _ in range(12))
        self.assertEqual(roots_of(figures, long), ())
        self.assertIs(has_twice(figures, long), False)

    def test_results_keep_what_they_are_given(self):
        parts = Parts(1, [2], None)
        self.assertEqual((parts.lead, parts.roots, parts.rest), (1, [2], None))
        self.assertFalse(Parts(1, 2, 3) == Parts(1, 2, 3))


if __name__ == "__main__":
    unittest.main()
