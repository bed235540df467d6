"""Promises 5.04, 5.08: discriminants, falling primes, coming apart by a prime, parting primes [7.3] to [7.7]."""

import itertools
import unittest
from fractions import Fraction

from helpers import PRIMES, drawer, drawn_number, fraction, long_number, numbers, raised
from secondway import plain_roots
from sparedproducts.blocks import square_pair
from sparedproducts.counts import fewest_of
from sparedproducts.discriminants import discriminant_of, falling_primes, stays_unlike
from sparedproducts.factors import comes_apart
from sparedproducts.figures import Figures
from sparedproducts.joining import joined_pairs
from sparedproducts.polys import poly_of_roots, poly_over, poly_times
from sparedproducts.primes import change_of_blocks, fewest_by_prime, fewest_by_primes, parting_primes, poly_by_prime
from sparedproducts.ratios import make_ratio

FRACTIONS = Figures(0)


def bad_fraction_polys():
    """Things that [7.6] refuses, and how."""
    one, zero = (1, 1), (0, 1)
    return [((), (0, "degree")), ((one,), (0, "degree")), ((one,) * 7, (0, "degree")), ((one,) * 13, (0, "many")),
            (None, (0, "many")), ("ab", (0, "many")), (3, (0, "many")), ({}, (0, "many")), ((one, 1), (1, "number")),
            ((1, one), (0, "number")), ((True, zero), (0, "number")), ((one, (2, 4), one), (1, "number")),
            ((one, [1, 1], one), (1, "number")), ((one, zero), (1, "last")), ((one, (2, 1)), (1, "led")),
            ((zero, zero, (-1, 1)), (2, "led"))]


def bad_primes():
    return (0, 1, 4, 9, 17, -2, True, None, "5", 5.0, (5,), [5], 10 ** 30)


def drawn_fraction_poly(draw, degree):
    """A poly led by one, some with bottoms, some with roots that fall together by small primes."""
    kind = draw.randrange(4)
    if kind == 0:
        return tuple(drawn_number(FRACTIONS, draw) for _ in range(degree)) + ((1, 1),)
    if kind == 1:
        return tuple((draw.randint(-30, 30), 1) for _ in range(degree)) + ((1, 1),)
    if kind == 2:
        return poly_of_roots(FRACTIONS, [(draw.randint(-15, 15), 1) for _ in range(degree)])
    return poly_of_roots(FRACTIONS, [make_ratio(draw.randint(-9, 9), draw.choice((1, 2, 3, 5, 7, 11))) for _ in range(degree)])


def can_be_read(poly, prime):
    return all(bottom % prime for _, bottom in poly)


def plain_determinant(rows):
    """By clearing columns, in Python's own fractions."""
    rows = [list(row) for row in rows]
    made = Fraction(1)
    for at in range(len(rows)):
        found = next((row for row in range(at, len(rows)) if rows[row][at]), None)
        if found is None:
            return Fraction(0)
        if found != at:
            rows[at], rows[found] = rows[found], rows[at]
            made = -made
        made *= rows[at][at]
        for row in rows[at + 1:]:
            share = row[at] / rows[at][at]
            for place in range(at, len(rows)):
                row[place] -= share * rows[at][place]
    return made


def discriminant_by_slope(poly):
    """From the determinant of the shifted numbers of the poly and of its slope."""
    high = [fraction(number) for number in poly][::-1]
    degree = len(high) - 1
    slope = [number * (degree - place) for place, number in enumerate(high[:-1])]
    size = 2 * degree - 1
    rows = [[Fraction(0)] * shift + high + [Fraction(0)] * (size - shift - degree - 1) for shift in range(degree - 1)]
    rows += [[Fraction(0)] * shift + slope + [Fraction(0)] * (size - shift - degree) for shift in range(degree)]
    return plain_determinant(rows) * (-1) ** (degree * (degree - 1) // 2)


def square_divides(figures, poly):
    """Whether the square of some poly of degree 1 or 2 divides the poly, by trial of all."""
    for degree in (1, 2):
        for below in itertools.product(range(figures.prime), repeat=degree):
            square = poly_times(figures, below + (1,), below + (1,))
            if len(square) <= len(poly) and not poly_over(figures, poly, square)[1]:
                return True
    return False


class DiscriminantTest(unittest.TestCase):

    def test_against_the_slope(self):
        draw = drawer(321)
        for degree in range(1, 6):
            for _ in range(25):
                poly = drawn_fraction_poly(draw, degree)
                made = discriminant_of(poly)
                self.assertEqual(fraction(made), discriminant_by_slope(poly))
                self.assertEqual(make_ratio(*made), made)
                self.assertEqual(discriminant_of(list(poly)), made)

    def test_straight_and_of_degree_two(self):
        draw = drawer(322)
        for _ in range(20):
            low, mid = drawn_number(FRACTIONS, draw), long_number(draw)
            self.assertEqual(discriminant_of((low, (1, 1))), (1, 1))
            due = fraction(mid) ** 2 - 4 * fraction(low)
            self.assertEqual(fraction(discriminant_of((low, mid, (1, 1)))), due)

    def test_squared_differences_of_roots(self):
        draw = drawer(323)
        for degree in range(1, 6):
            for _ in range(8):
                roots = [draw.choice((drawn_number(FRACTIONS, draw), (draw.randint(-20, 20), 1))) for _ in range(degree)]
                due = Fraction(1)
                for one, other in itertools.combinations(roots, 2):
                    due *= (fraction(one) - fraction(other)) ** 2
                self.assertEqual(fraction(discriminant_of(poly_of_roots(FRACTIONS, roots))), due)

    def test_long_numbers(self):
        draw = drawer(324)
        poly = tuple(long_number(draw, 60) for _ in range(5)) + ((1, 1),)
        self.assertEqual(fraction(discriminant_of(poly)), discriminant_by_slope(poly))

    def test_refusals(self):
        for thing, due in bad_fraction_polys():
            self.assertEqual(raised(discriminant_of, thing), ("BadPoly", due))
            self.assertEqual(raised(falling_primes, thing), ("BadPoly", due))
            for prime in (5, True, None):
                self.assertEqual(raised(stays_unlike, thing, prime), ("BadPoly", due))
        unread = ((1, 30030), (1, 1))
        for prime in bad_primes():
            self.assertEqual(raised(stays_unlike, unread, prime), ("BadPrime", (0,)))
        for prime in PRIMES:
            self.assertEqual(raised(stays_unlike, unread, prime), ("BadNumber", ()))
        self.assertEqual(falling_primes(unread), ())

    def test_example(self):
        poly = numbers(FRACTIONS, (1, 0, 1))
        self.assertEqual(discriminant_of(poly), (-4, 1))
        self.assertEqual(falling_primes(poly), (2,))


class UnlikeTest(unittest.TestCase):

    def test_stays_unlike_and_the_top(self):
        draw = drawer(325)
        met = set()
        for degree in range(1, 6):
            for _ in range(14):
                poly = drawn_fraction_poly(draw, degree)
                top = discriminant_of(poly)[0]
                falling = []
                for prime in PRIMES:
                    if not can_be_read(poly, prime):
                        self.assertEqual(raised(stays_unlike, poly, prime), ("BadNumber", ()))
                        continue
                    made = stays_unlike(poly, prime)
                    self.assertIs(made, top % prime != 0)
                    if prime < 6 or (prime < 12 and degree < 3):
                        self.assertIs(made, not square_divides(Figures(prime), poly_by_prime(poly, prime)))
                    falling += [] if made else [prime]
                    met.add(made)
                    self.assertIs(stays_unlike(list(poly), prime), made)
                self.assertEqual(falling_primes(poly), tuple(falling))
                self.assertEqual(falling_primes(list(poly)), tuple(falling))
        self.assertEqual(met, {True, False})

    def test_like_roots_fall_by_every_prime(self):
        self.assertEqual(falling_primes(numbers(FRACTIONS, (0, 0, 1))), PRIMES)
        self.assertEqual(falling_primes(numbers(FRACTIONS, (-3, 1))), ())

    def test_coming_apart_by_a_prime(self):
        draw = drawer(326)
        met = set()
        for degree in range(1, 6):
            for _ in range(20):
                poly = drawn_fraction_poly(draw, degree)
                apart = comes_apart(FRACTIONS, poly) is not None
                top = discriminant_of(poly)[0]
                for prime in PRIMES:
                    if apart and can_be_read(poly, prime):
                        made = comes_apart(Figures(prime), poly_by_prime(poly, prime)) is not None
                        self.assertEqual(made, top % prime != 0)
                        met.add(made)
        self.assertEqual(met, {True, False})


class PartingTest(unittest.TestCase):

    def test_blocks_with_like_roots(self):
        # Roots that fall together by a prime make a square block dearer there.
        draw = drawer(327)
        met = set()
        for degree in range(2, 6):
            for _ in range(12):
                roots = []
                while len(roots) < degree:
                    base = draw.choice(roots) if roots and draw.random() < 0.6 else (draw.randint(-3, 3), 1)
                    root = (base[0] + draw.choice((0, 1, 5, 7, 11, 13, 35, 143)), 1)
                    roots += [] if root in roots else [root]
                poly = poly_of_roots(FRACTIONS, roots)
                given = square_pair(FRACTIONS, poly)
                due = tuple(prime for prime in (5, 7, 11, 13) if discriminant_of(poly)[0] % prime == 0)
                self.assertEqual(parting_primes(given), due)
                self.assertEqual(due, tuple(prime for prime in falling_primes(poly) if prime > 3))
                for prime in (5, 7, 11, 13):
                    self.assertIsNone(change_of_blocks(given, prime))
                    self.assertEqual(fewest_by_prime(given, prime), degree + (prime in due))
                met.update(due)
        self.assertEqual(met, {5, 7, 11, 13})

    def test_polys_of_any_kind(self):
        draw = drawer(328)
        for degree in range(1, 6):
            for _ in range(10):
                poly = drawn_fraction_poly(draw, degree)
                given = square_pair(FRACTIONS, poly)
                number = degree + (comes_apart(FRACTIONS, poly) is None)
                self.assertEqual(fewest_of(given).number, number)
                due = []
                for prime in (5, 7, 11, 13):
                    if can_be_read(poly, prime):
                        figures = Figures(prime)
                        reading = poly_by_prime(poly, prime)
                        less = degree + (len(plain_roots(figures, reading)) != degree)
                        self.assertEqual(fewest_by_prime(given, prime), less)
                        due += [prime] if less != number else []
                self.assertEqual(parting_primes(given), tuple(due))

    def test_rows_of_several_polys(self):
        draw = drawer(329)
        for _ in range(12):
            roots = [(draw.randint(-8, 8), 1) for _ in range(draw.randint(2, 5))]
            given = joined_pairs([square_pair(FRACTIONS, ((-top, 1), (1, 1))) for top, _ in roots])
            number = len(roots)
            for row in fewest_by_primes(given, (13, 5, 11, 7)):
                # A diagonal pair stays diagonal, so every prime needs as many products as the rank.
                self.assertEqual((row.number, row.why), (number, None))
            self.assertEqual(parting_primes(given), ())

    def test_example(self):
        given = square_pair(FRACTIONS, numbers(FRACTIONS, (1, 0, 1)))
        made = fewest_by_primes(given, PRIMES)
        self.assertEqual([row.number for row in made], [3, 3, 2, 3, 3, 2])
        self.assertEqual(parting_primes(given), (5, 13))


if __name__ == "__main__":
    unittest.main()
