"""Promise 5.11: roots by powers of a prime, and products that are right by the power [7.8], [7.9]."""

import unittest

from helpers import PRIMES, drawer, long_number, numbers, raised
from secondway import plain_roots
from sparedproducts.figures import Figures
from sparedproducts.polys import last_column, poly_of_roots
from sparedproducts.powers import Raised, raised_products, raised_roots
from sparedproducts.primes import poly_by_prime
from sparedproducts.ratios import make_ratio
from test_discriminants import bad_fraction_polys, bad_primes, can_be_read, drawn_fraction_poly

FRACTIONS = Figures(0)
BAD_TIMES = (0, -1, 31, True, False, None, "1", 1.0, (1,), 10 ** 20)


def whole_of(number, modulus):
    """The whole number that a ratio stands for."""
    top, bottom = number
    return top * pow(bottom, -1, modulus) % modulus


def value_by(poly, place, modulus):
    return sum(whole_of(number, modulus) * pow(place, power, modulus) for power, number in enumerate(poly)) % modulus


def apart_by(prime, draw, degree):
    """A poly whose reading comes apart by the prime; its roots in fractions may be none."""
    figures = Figures(prime)
    while True:
        roots = draw.sample(range(prime), degree)
        wholes = poly_of_roots(figures, roots)
        spread = draw.choice((0, 1, 10 ** 6))
        poly = [make_ratio(number + prime * draw.randint(-spread, spread), 1) for number in wholes[:-1]]
        if draw.random() < 0.5:
            # A bottom that the prime does not divide, and the top that has the same reading.
            bottom = draw.choice([many for many in range(1, 40) if many % prime])
            poly[0] = make_ratio(poly[0][0] * bottom + prime * draw.randint(-9, 9), bottom)
        poly = tuple(poly) + ((1, 1),)
        if can_be_read(poly, prime):
            return poly, sorted(roots)


class RootsTest(unittest.TestCase):

    def judge(self, poly, prime, times, roots):
        made = raised_roots(poly, prime, times)
        modulus = prime ** times
        self.assertEqual((type(made), len(made)), (tuple, len(roots)))
        for root, place in zip(roots, made):
            self.assertIs(type(place), int)
            self.assertTrue(0 <= place < modulus)
            self.assertEqual((place - root) % prime, 0)
            self.assertEqual(value_by(poly, place, modulus), 0)
        self.assertEqual(raised_roots(list(poly), prime, times), made)
        return made

    def test_drawn_polys(self):
        draw = drawer(351)
        for prime in PRIMES:
            for degree in range(1, min(5, prime) + 1):
                for times in (1, 2, 3, 7, 30):
                    poly, roots = apart_by(prime, draw, degree)
                    self.assertEqual(plain_roots(Figures(prime), poly_by_prime(poly, prime)), roots)
                    made = self.judge(poly, prime, times, roots)
                    if times == 1:
                        self.assertEqual(made, tuple(roots))
                    # The root by a greater power stands over the one by a lesser power.
                    for less in range(1, times):
                        self.assertEqual(tuple(place % prime ** less for place in made), raised_roots(poly, prime, less))

    def test_just_one_for_each_root(self):
        draw = drawer(352)
        for prime in PRIMES:
            for times in (1, 2, 3):
                for degree in range(1, min(5, prime) + 1):
                    if prime ** times > 1400:
                        continue
                    poly, roots = apart_by(prime, draw, degree)
                    due = [place for place in range(prime ** times) if value_by(poly, place, prime ** times) == 0]
                    self.assertEqual(sorted(self.judge(poly, prime, times, roots)), due)

    def test_roots_of_fractions_are_met(self):
        draw = drawer(353)
        roots = [long_number(draw) for _ in range(3)]
        poly = poly_of_roots(FRACTIONS, roots)
        for prime in (5, 7, 11, 13):
            figures = Figures(prime)
            if can_be_read(roots, prime) and len({figures.number_of(root) for root in roots}) == 3:
                made = raised_roots(poly, prime, 30)
                due = sorted(roots, key=figures.number_of)
                self.assertEqual(made, tuple(whole_of(root, prime ** 30) for root in due))

    def test_examples(self):
        poly = numbers(FRACTIONS, (1, 0, 1))
        self.assertEqual(raised_roots(poly, 5, 2), (7, 18))
        self.assertEqual(raised_roots(poly, 5, 1), (2, 3))
        self.assertEqual(raised_roots(numbers(FRACTIONS, (0, 1)), 2, 30), (0,))
        self.assertEqual(raised_roots(numbers(FRACTIONS, (1, 1)), 2, 30), (2 ** 30 - 1,))
        self.assertEqual(raised_roots(((-1, 2), (1, 1)), 3, 2), (5,))

    def test_polys_that_do_not_come_apart(self):
        draw = drawer(354)
        for deed in (raised_roots, raised_products):
            poly = numbers(FRACTIONS, (1, 0, 1))
            for prime in (2, 3, 7, 11):
                self.assertEqual(raised(deed, poly, prime, 2), ("NotApart", ()))
            # Apart in fractions, but its roots fall together.
            for prime in PRIMES:
                self.assertEqual(raised(deed, numbers(FRACTIONS, (0, -prime, 1)), prime, 1), ("NotApart", ()))
            # More degrees than there are numbers by the prime.
            for prime, degree in ((2, 3), (2, 5), (3, 4), (3, 5)):
                poly = drawn_fraction_poly(draw, degree)
                while not can_be_read(poly, prime):
                    poly = drawn_fraction_poly(draw, degree)
                self.assertEqual(raised(deed, poly, prime, 30), ("NotApart", ()))

    def test_refusals_in_their_order(self):
        unread = ((1, 30030), (0, 1), (1, 1))
        twice = numbers(FRACTIONS, (0, 0, 1))
        for deed in (raised_roots, raised_products):
            for thing, due in bad_fraction_polys():
                for prime in (5, 17, True):
                    self.assertEqual(raised(deed, thing, prime, None), ("BadPoly", due))
            for prime in bad_primes():
                for times in (1, 0, None):
                    self.assertEqual(raised(deed, unread, prime, times), ("BadPrime", (0,)))
            for prime in PRIMES:
                for times in BAD_TIMES:
                    for poly in (unread, twice):
                        self.assertEqual(raised(deed, poly, prime, times), ("BadTimes", ()))
                for times in (1, 30):
                    self.assertEqual(raised(deed, unread, prime, times), ("BadNumber", ()))
                    self.assertEqual(raised(deed, twice, prime, times), ("NotApart", ()))


class ProductsTest(unittest.TestCase):

    def judge(self, poly, prime, times):
        made = raised_products(poly, prime, times)
        size, modulus = len(poly) - 1, prime ** times
        self.assertIsInstance(made, Raised)
        self.assertEqual(made.modulus, modulus)
        self.assertEqual((type(made.products), len(made.products)), (tuple, size))
        for u, v, c, d in made.products:
            self.assertEqual((type(u), type(v), len(u), len(v)), (tuple, tuple, size, size))
            for number in u + v + (c, d):
                self.assertIs(type(number), int)
                self.assertTrue(0 <= number < modulus)
        column = last_column(FRACTIONS, poly)
        for i in range(size):
            for j in range(size):
                first = sum(c * u[i] * v[j] for u, v, c, d in made.products)
                second = sum(d * u[i] * v[j] for u, v, c, d in made.products)
                self.assertEqual(first % modulus, int(i == j))
                self.assertEqual(second % modulus, whole_of(column[i][j], modulus))
        self.assertEqual(vars(raised_products(list(poly), prime, times)), vars(made))

    def test_drawn_polys(self):
        draw = drawer(355)
        for prime in PRIMES:
            for degree in range(1, min(5, prime) + 1):
                for times in (1, 2, 5, 29, 30):
                    self.judge(apart_by(prime, draw, degree)[0], prime, times)

    def test_long_numbers(self):
        draw = drawer(356)
        met = 0
        while met < 4:
            poly = tuple(long_number(draw, 60) for _ in range(2)) + ((1, 1),)
            for prime in (5, 7, 11, 13):
                if can_be_read(poly, prime) and len(plain_roots(Figures(prime), poly_by_prime(poly, prime))) == 2:
                    self.judge(poly, prime, 30)
                    met += 1

    def test_results_keep_what_they_are_given(self):
        made = Raised("a", None)
        self.assertEqual((made.modulus, made.products), ("a", None))
        self.assertFalse(made == Raised("a", None))


if __name__ == "__main__":
    unittest.main()
