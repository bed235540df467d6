"""Promise 1.01, the figures [1.2], and [0.9] for them."""

import unittest

from helpers import ALL, PRIMES, drawer, fraction, long_number, raised
from sparedproducts.figures import Figures
from sparedproducts.ratios import is_ratio


class FiguresTest(unittest.TestCase):

    def test_the_primes_offered(self):
        for prime in ALL:
            self.assertEqual(Figures(prime).prime, prime)
        for thing in (1, 4, 6, 9, 17, -2, -1, 10 ** 20, True, False, None, "2", 2.0, (2,), [5], 0.0):
            with self.subTest(thing=thing):
                self.assertEqual(raised(Figures, thing), ("BadFigures", (thing,)))

    def test_zero_and_one(self):
        self.assertEqual((Figures(0).zero, Figures(0).one), ((0, 1), (1, 1)))
        for prime in PRIMES:
            self.assertEqual((Figures(prime).zero, Figures(prime).one), (0, 1))

    def test_equality(self):
        for prime in ALL:
            for other in ALL:
                self.assertIs(Figures(prime) == Figures(other), prime == other)
            self.assertFalse(Figures(prime) == prime)
            self.assertTrue(Figures(prime) != None)  # noqa: E711
            self.assertFalse(Figures(prime) == "x")

    def test_fractions(self):
        figures = Figures(0)
        draw = drawer(2)
        for _ in range(60):
            one, other = long_number(draw), long_number(draw)
            left, right = fraction(one), fraction(other)
            for deed, due in ((figures.plus, left + right), (figures.minus, left - right),
                              (figures.times, left * right), (figures.over, left / right)):
                self.assertTrue(is_ratio(deed(one, other)))
                self.assertEqual(fraction(deed(one, other)), due)
            self.assertEqual(fraction(figures.negative(one)), -left)
            self.assertEqual(figures.compare(one, other), (left > right) - (left < right))
        self.assertEqual(figures.negative((0, 1)), (0, 1))
        self.assertEqual(figures.compare((2, 4), (1, 2)), 0)
        self.assertEqual(raised(figures.over, (1, 2), (0, 1)), ("DividedByNought", ()))

    def test_rests(self):
        for prime in PRIMES:
            figures = Figures(prime)
            for one in range(prime):
                self.assertEqual(figures.negative(one), -one % prime)
                self.assertEqual(raised(figures.over, one, 0), ("DividedByNought", ()))
                for other in range(prime):
                    self.assertEqual(figures.plus(one, other), (one + other) % prime)
                    self.assertEqual(figures.minus(one, other), (one - other) % prime)
                    self.assertEqual(figures.times(one, other), one * other % prime)
                    self.assertEqual(figures.compare(one, other), (one > other) - (one < other))
                    if other:
                        made = figures.over(one, other)
                        self.assertIn(made, range(prime))
                        self.assertEqual(made * other % prime, one)

    def test_whole_number(self):
        for many in (0, 1, -1, 12, 13, -13, 27, 10 ** 20 + 3, -10 ** 20):
            self.assertEqual(Figures(0).whole_number(many), (many, 1))
            for prime in PRIMES:
                self.assertEqual(Figures(prime).whole_number(many), many % prime)

    def test_number_of(self):
        self.assertEqual(Figures(0).number_of((-7, 3)), (-7, 3))
        for prime in PRIMES:
            figures = Figures(prime)
            for top in (-15, -1, 0, 1, 2, 6, 35, 10 ** 20 + 1):
                for bottom in (1, 3, 4, 7, 15, 26, 10 ** 20 + 39):
                    if bottom % prime:
                        made = figures.number_of((top, bottom))
                        self.assertIn(made, range(prime))
                        self.assertEqual((made * bottom - top) % prime, 0)
                    else:
                        self.assertEqual(raised(figures.number_of, (top, bottom)), ("BadNumber", ()))

    def test_what_is_a_number(self):
        things = [True, False, None, "0", 0.0, [0, 1], [], (), (0,), (1, 1, 1), {}, (True, 1), (2, 2), (1, 0),
                  (1, -1), b"", object()]
        for prime in ALL:
            for thing in things:
                self.assertIs(Figures(prime).is_number(thing), False)
        self.assertIs(Figures(0).is_number((-2, 3)), True)
        self.assertIs(Figures(0).is_number(1), False)
        for prime in PRIMES:
            self.assertIs(Figures(prime).is_number((1, 1)), False)
            for thing in range(-3, prime + 3):
                self.assertIs(Figures(prime).is_number(thing), 0 <= thing < prime)

    def test_all_numbers(self):
        self.assertEqual(Figures(0).all_numbers(), ())
        for prime in PRIMES:
            self.assertEqual(Figures(prime).all_numbers(), tuple(range(prime)))


if __name__ == "__main__":
    unittest.main()
