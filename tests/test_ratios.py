"""Promise 1.01, the ratios [1.1]."""

import unittest
from fractions import Fraction

from helpers import drawer, fraction, long_number, raised
from sparedproducts.ratios import common_divisor, is_ratio, is_sequence, is_whole, make_ratio
from sparedproducts.ratios import ratio_compare, ratio_minus, ratio_over, ratio_plus, ratio_times

THINGS = [True, False, None, "1", 1.0, [1], (1,), {}, b"1", Fraction(1, 2)]


class ReadingTest(unittest.TestCase):

    def test_whole_numbers(self):
        self.assertIs(is_whole(3), True)
        self.assertIs(is_whole(-10 ** 40), True)
        for thing in THINGS:
            self.assertIs(is_whole(thing), False)
            self.assertIs(is_whole(thing, 0, 5), False)

    def test_bounds_are_included(self):
        for thing, low, high, due in ((3, 3, None, True), (2, 3, None, False), (3, None, 3, True),
                                      (4, None, 3, False), (0, 0, 0, True), (5, 1, 5, True), (6, 1, 5, False)):
            self.assertIs(is_whole(thing, low, high), due)
        self.assertIs(is_whole(thing=3, low=1, high=5), True)
        self.assertIs(is_whole(True, 0, 1), False)

    def test_sequences(self):
        for thing in ([], (), [1], (1, 2)):
            self.assertIs(is_sequence(thing), True)
        for thing in ("ab", {}, {1}, range(3), None, 1, b"a"):
            self.assertIs(is_sequence(thing), False)

    def test_common_divisor(self):
        for one, other, due in ((12, 18, 6), (-12, 18, 6), (12, -18, 6), (0, -7, 7), (7, 0, 7), (0, 0, 0),
                                (1, 10 ** 30, 1), (10 ** 20, 10 ** 19, 10 ** 19)):
            self.assertEqual(common_divisor(one, other), due)

    def test_what_is_a_ratio(self):
        for thing in ((0, 1), (1, 1), (-3, 2), (10 ** 20 + 1, 10 ** 20)):
            self.assertIs(is_ratio(thing), True)
        for thing in ((2, 2), (0, 2), (0, 0), (1, 0), (1, -2), (-1, -1), [1, 2], (1,), (1, 2, 3), (), 1, (True, 1),
                      (1, True), ("1", 1), (1, None), (1.0, 1), "12"):
            self.assertIs(is_ratio(thing), False, thing)


class DeedsTest(unittest.TestCase):

    def test_make_ratio(self):
        for top, bottom, due in ((6, 4, (3, 2)), (6, -4, (-3, 2)), (-6, -4, (3, 2)), (0, -9, (0, 1)), (5, 1, (5, 1)),
                                 (-7, 1, (-7, 1))):
            self.assertEqual(make_ratio(top, bottom), due)
        self.assertEqual(make_ratio(4), (4, 1))
        self.assertEqual(make_ratio(top=2, bottom=6), (1, 3))

    def test_make_ratio_refuses(self):
        for thing in THINGS:
            self.assertEqual(raised(make_ratio, thing, 1), ("BadRatio", ("top",)))
            self.assertEqual(raised(make_ratio, 1, thing), ("BadRatio", ("bottom",)))
            self.assertEqual(raised(make_ratio, thing, 0), ("BadRatio", ("top",)))
        self.assertEqual(raised(make_ratio, 0, 0), ("BadRatio", ("bottom",)))

    def test_against_fractions(self):
        draw = drawer(1)
        for digits in (1, 2, 20, 60):
            for _ in range(40):
                one, other = long_number(draw, digits), long_number(draw, digits)
                left, right = fraction(one), fraction(other)
                for deed, due in ((ratio_plus, left + right), (ratio_minus, left - right),
                                  (ratio_times, left * right), (ratio_over, left / right)):
                    made = deed(one, other)
                    self.assertTrue(is_ratio(made))
                    self.assertEqual(fraction(made), due)
                self.assertEqual(ratio_compare(one, other), (left > right) - (left < right))

    def test_zero(self):
        self.assertEqual(ratio_plus((1, 2), (-1, 2)), (0, 1))
        self.assertEqual(ratio_minus((1, 2), (1, 2)), (0, 1))
        self.assertEqual(ratio_times((0, 1), (-7, 3)), (0, 1))
        self.assertEqual(ratio_over((0, 1), (-7, 3)), (0, 1))
        self.assertEqual(ratio_over((1, 2), (-1, 3)), (-3, 2))
        self.assertEqual(raised(ratio_over, (1, 2), (0, 1)), ("DividedByNought", ()))
        self.assertEqual(raised(ratio_over, (0, 1), (0, 1)), ("DividedByNought", ()))

    def test_order(self):
        self.assertEqual(ratio_compare((-1, 2), (-1, 3)), -1)
        self.assertEqual(ratio_compare((2, 3), (2, 3)), 0)
        self.assertEqual(ratio_compare((1, 2), (-5, 1)), 1)


if __name__ == "__main__":
    unittest.main()
