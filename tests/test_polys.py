"""Promises 2.05 and 2.06: polys [3.1] to [3.5], [3.11]."""

import itertools
import unittest

from helpers import PRIMES, all_figures, drawer, drawn_number, long_number, numbers, raised, table
from sparedproducts.figures import Figures
from sparedproducts.polys import check_led_poly, check_poly, last_column, led_by_one, poly_common, poly_minus
from sparedproducts.polys import poly_of_roots, poly_over, poly_plus, poly_times, poly_ways, slope_of, value_at


def drawn_poly(figures, draw, degree):
    if degree < 0:
        return ()
    last = figures.zero
    while last == figures.zero:
        last = drawn_number(figures, draw)
    return tuple(drawn_number(figures, draw) for _ in range(degree)) + (last,)


def entry(figures, poly, place):
    return poly[place] if place < len(poly) else figures.zero


def is_poly(figures, thing):
    return (type(thing) is tuple and all(figures.is_number(number) for number in thing)
            and (not thing or thing[-1] != figures.zero))


def plain_value(figures, poly, number):
    value, power = figures.zero, figures.one
    for part in poly:
        value = figures.plus(value, figures.times(part, power))
        power = figures.times(power, number)
    return value


def power_of(figures, poly, many):
    made = (figures.one,)
    for _ in range(many):
        made = poly_times(figures, made, poly)
    return made


class CheckTest(unittest.TestCase):

    def test_right_ones(self):
        draw = drawer(31)
        for figures in all_figures():
            for degree in range(-1, 12):
                poly = drawn_poly(figures, draw, degree)
                self.assertEqual(check_poly(figures, list(poly)), poly)
                self.assertIs(type(check_poly(figures, list(poly))), tuple)
                led = led_by_one(figures, poly)
                if degree >= 0:
                    self.assertEqual(check_led_poly(figures, list(led), degree, degree), led)
                    self.assertEqual(check_led_poly(figures, led, -1, 11), led)

    def test_refusals(self):
        for figures in all_figures():
            one, zero = figures.one, figures.zero
            for thing in (None, 3, "ab", {}, {1}, (one,) * 13, [None] * 13):
                self.assertEqual(raised(check_poly, figures, thing), ("BadPoly", (0, "many")))
            for thing in (True, None, "1", 1.0, -1, figures.prime or 1, [1, 1], (2, 2)):
                for at in range(4):
                    given = [one] * 4
                    given[at] = thing
                    self.assertEqual(raised(check_poly, figures, given), ("BadPoly", (at, "number")))
                self.assertEqual(raised(check_poly, figures, [one, thing, thing, zero]), ("BadPoly", (1, "number")))
            for many in range(1, 13):
                self.assertEqual(raised(check_poly, figures, [one] * (many - 1) + [zero]),
                                 ("BadPoly", (many - 1, "last")))

    def test_led_refusals(self):
        for figures in all_figures():
            one, zero = figures.one, figures.zero
            self.assertEqual(raised(check_led_poly, figures, (), 0, 5), ("BadPoly", (0, "degree")))
            self.assertEqual(raised(check_led_poly, figures, (), -1, 5), ("BadPoly", (0, "led")))
            self.assertEqual(raised(check_led_poly, figures, (one,), 1, 5), ("BadPoly", (0, "degree")))
            self.assertEqual(raised(check_led_poly, figures, (one,) * 4, 1, 2), ("BadPoly", (0, "degree")))
            self.assertEqual(raised(check_led_poly, figures, (one,) * 13, 1, 2), ("BadPoly", (0, "many")))
            self.assertEqual(raised(check_led_poly, figures, (one, None), 2, 2), ("BadPoly", (1, "number")))
            self.assertEqual(raised(check_led_poly, figures, (one, zero), 2, 2), ("BadPoly", (1, "last")))
            if figures.prime != 2:
                two = figures.whole_number(2)
                self.assertEqual(raised(check_led_poly, figures, (one, one, two), 1, 5), ("BadPoly", (2, "led")))
                self.assertEqual(raised(check_led_poly, figures, (two,), 0, 0), ("BadPoly", (0, "led")))
                # The degree is told ahead of the last number.
                self.assertEqual(raised(check_led_poly, figures, (one, two), 2, 5), ("BadPoly", (0, "degree")))

    def test_every_deed_checks_its_polys_in_order(self):
        for figures in all_figures():
            one, zero = figures.one, figures.zero
            for deed in (poly_plus, poly_minus, poly_times, poly_over, poly_common, poly_ways):
                self.assertEqual(raised(deed, figures, (one, zero), None), ("BadPoly", (1, "last")))
                self.assertEqual(raised(deed, figures, None, (one, zero)), ("BadPoly", (0, "many")))
                self.assertEqual(raised(deed, figures, (one,), (one, None)), ("BadPoly", (1, "number")))
                self.assertEqual(raised(deed, figures, (one,) * 13, ()), ("BadPoly", (0, "many")))
                self.assertEqual(raised(deed, figures, (), (one,) * 13), ("BadPoly", (0, "many")))
            for deed in (led_by_one, slope_of, last_column):
                self.assertEqual(raised(deed, figures, (one, zero)), ("BadPoly", (1, "last")))
                self.assertEqual(raised(deed, figures, (one,) * 13), ("BadPoly", (0, "many")))
            self.assertEqual(raised(value_at, figures, (True,), one), ("BadPoly", (0, "number")))


class DeedsTest(unittest.TestCase):

    def test_sums_and_products(self):
        draw = drawer(32)
        for figures in all_figures():
            for _ in range(30):
                one = drawn_poly(figures, draw, draw.randint(-1, 11))
                other = drawn_poly(figures, draw, draw.randint(-1, 11))
                for deed, number in ((poly_plus, figures.plus), (poly_minus, figures.minus)):
                    made = deed(figures, list(one), other)
                    self.assertTrue(is_poly(figures, made))
                    self.assertLessEqual(len(made), max(len(one), len(other)))
                    for place in range(12):
                        self.assertEqual(entry(figures, made, place),
                                         number(entry(figures, one, place), entry(figures, other, place)))
                made = poly_times(figures, one, list(other))
                self.assertTrue(is_poly(figures, made))
                self.assertEqual(len(made), len(one) + len(other) - 1 if one and other else 0)
                for place in range(len(made)):
                    total = figures.zero
                    for at in range(place + 1):
                        total = figures.plus(total, figures.times(entry(figures, one, at),
                                                                  entry(figures, other, place - at)))
                    self.assertEqual(made[place], total)
                self.assertEqual(poly_minus(figures, one, one), ())
                self.assertEqual(poly_plus(figures, one, ()), one)

    def test_products_may_be_longer_than_twelve(self):
        for figures in all_figures():
            made = poly_times(figures, (figures.one,) * 12, (figures.one,) * 12)
            self.assertEqual(len(made), 23)
            self.assertEqual(made[11], figures.whole_number(12))

    def test_led_by_one(self):
        figures = Figures(0)
        self.assertEqual(led_by_one(figures, numbers(figures, (1, 0, -2))), numbers(figures, ((-1, 2), 0, 1)))
        self.assertEqual(led_by_one(Figures(5), [1, 0, 2]), (3, 0, 1))
        for figures in all_figures():
            self.assertEqual(led_by_one(figures, ()), ())
            self.assertEqual(led_by_one(figures, [figures.one]), (figures.one,))

    def test_values(self):
        draw = drawer(33)
        for figures in all_figures():
            for _ in range(20):
                poly = drawn_poly(figures, draw, draw.randint(-1, 11))
                number = drawn_number(figures, draw)
                self.assertEqual(value_at(figures, poly, number), plain_value(figures, poly, number))
            self.assertEqual(value_at(figures, (), figures.one), figures.zero)

    def test_slopes(self):
        figures = Figures(0)
        self.assertEqual(slope_of(figures, numbers(figures, (7, 5, 0, (1, 2)))), numbers(figures, (5, 0, (3, 2))))
        for figures in all_figures():
            self.assertEqual(slope_of(figures, ()), ())
            self.assertEqual(slope_of(figures, (figures.one,)), ())
            due = numbers(figures, (0, 0, 3)) if figures.prime != 3 else ()
            self.assertEqual(slope_of(figures, numbers(figures, (0, 0, 0, 1))), due)
        for prime in (2, 3, 5, 7, 11):
            self.assertEqual(slope_of(Figures(prime), (1,) + (0,) * (prime - 1) + (1,)), ())
        # Only zeros at the end go.
        self.assertEqual(slope_of(Figures(2), (1, 1, 1, 0, 1)), (1,))

    def test_polys_of_roots(self):
        for figures in all_figures():
            self.assertEqual(poly_of_roots(figures, ()), (figures.one,))
            roots = numbers(figures, (1, 2, 2, -3))
            made = poly_of_roots(figures, list(roots))
            due = (figures.one,)
            for root in roots:
                due = poly_times(figures, due, (figures.negative(root), figures.one))
            self.assertEqual(made, due)
            self.assertEqual(len(poly_of_roots(figures, (figures.one,) * 11)), 12)


class DivisionTest(unittest.TestCase):

    def test_quotients_and_rests(self):
        draw = drawer(34)
        for figures in all_figures():
            for _ in range(40):
                one = drawn_poly(figures, draw, draw.randint(-1, 11))
                other = drawn_poly(figures, draw, draw.randint(0, 11))
                quotient, rest = poly_over(figures, list(one), list(other))
                self.assertTrue(is_poly(figures, quotient) and is_poly(figures, rest))
                self.assertLess(len(rest), len(other))
                self.assertEqual(poly_plus(figures, poly_times(figures, quotient, other), rest), one)
            self.assertEqual(raised(poly_over, figures, (figures.one,), ()), ("DividedByNought", ()))
            self.assertEqual(raised(poly_over, figures, (), ()), ("DividedByNought", ()))
            # A poly that is none comes ahead of the division by nothing.
            self.assertEqual(raised(poly_over, figures, (None,), ()), ("BadPoly", (0, "number")))

    def test_long_numbers(self):
        figures = Figures(0)
        draw = drawer(35)
        one = tuple(long_number(draw, 60) for _ in range(6))
        other = tuple(long_number(draw, 60) for _ in range(3))
        quotient, rest = poly_over(figures, one, other)
        self.assertEqual(len(quotient), 4)
        for number in numbers(figures, (2, (-1, 3), 7, 11, 5, -1)):
            self.assertEqual(plain_value(figures, one, number), figures.plus(figures.times(
                plain_value(figures, quotient, number), plain_value(figures, other, number)),
                plain_value(figures, rest, number)))


class CommonTest(unittest.TestCase):

    def judge(self, figures, one, other):
        common = poly_common(figures, list(one), list(other))
        self.assertTrue(is_poly(figures, common))
        self.assertEqual(common, poly_common(figures, other, one))
        told, left, right = poly_ways(figures, list(one), other)
        self.assertEqual(told, common)
        self.assertTrue(is_poly(figures, left) and is_poly(figures, right))
        # A sum of both that divides both is the common divisor of greatest degree.
        made = poly_plus(figures, poly_times(figures, left, one), poly_times(figures, right, other))
        self.assertEqual(made, common)
        if common:
            self.assertEqual(common[-1], figures.one)
            for poly in (one, other):
                self.assertEqual(poly_over(figures, poly, common)[1], ())
        else:
            self.assertEqual((one, other), ((), ()))
        return common

    def test_drawn_ones(self):
        draw = drawer(36)
        for figures in all_figures():
            for _ in range(25):
                share = drawn_poly(figures, draw, draw.randint(0, 3))
                one = poly_times(figures, share, drawn_poly(figures, draw, draw.randint(-1, 4)))
                other = poly_times(figures, share, drawn_poly(figures, draw, draw.randint(-1, 4)))
                common = self.judge(figures, one, other)
                if common:
                    self.assertEqual(poly_over(figures, common, share)[1], ())

    def test_zero_polys(self):
        draw = drawer(37)
        for figures in all_figures():
            self.assertEqual(self.judge(figures, (), ()), ())
            poly = drawn_poly(figures, draw, 3)
            self.assertEqual(self.judge(figures, poly, ()), led_by_one(figures, poly))
            self.assertEqual(self.judge(figures, (), poly), led_by_one(figures, poly))
            self.assertEqual(self.judge(figures, poly, poly), led_by_one(figures, poly))
            self.assertEqual(self.judge(figures, poly, drawn_poly(figures, draw, 0)), (figures.one,))

    def test_known_ones(self):
        for figures in all_figures():
            one = poly_of_roots(figures, numbers(figures, (0, 0, 0, 1)))
            other = poly_of_roots(figures, numbers(figures, (0, 0, 1, 1)))
            self.assertEqual(self.judge(figures, one, other), poly_of_roots(figures, numbers(figures, (0, 0, 1))))

    def test_all_small_polys(self):
        figures = Figures(2)
        polys = [bits + (1,) for degree in range(4) for bits in itertools.product((0, 1), repeat=degree)]
        for one in polys:
            for other in polys:
                common = self.judge(figures, one, other)
                greatest = max(len(poly) for poly in polys
                               if not poly_over(figures, one, poly)[1] and not poly_over(figures, other, poly)[1])
                self.assertEqual(len(common), greatest)

    def test_long_numbers(self):
        figures = Figures(0)
        draw = drawer(38)
        share = tuple(long_number(draw, 20) for _ in range(2)) + (figures.one,)
        one = poly_times(figures, share, tuple(long_number(draw, 20) for _ in range(4)))
        other = poly_times(figures, share, tuple(long_number(draw, 20) for _ in range(3)))
        self.assertEqual(self.judge(figures, one, other), share)
        one = tuple(long_number(draw, 60) for _ in range(12))
        other = tuple(long_number(draw, 60) for _ in range(12))
        self.assertEqual(poly_common(figures, one, other), (figures.one,))


class LastColumnTest(unittest.TestCase):

    def test_last_columns(self):
        for figures in all_figures():
            self.assertEqual(last_column(figures, numbers(figures, (2, 1))), table(figures, ((-2,),)))
            self.assertEqual(last_column(figures, list(numbers(figures, (2, 3, 1)))), table(figures, ((0, -2), (1, -3))))
            self.assertEqual(last_column(figures, numbers(figures, (2, 3, 4, 5, 6, 1))),
                             table(figures, ((0, 0, 0, 0, -2), (1, 0, 0, 0, -3), (0, 1, 0, 0, -4), (0, 0, 1, 0, -5),
                                             (0, 0, 0, 1, -6))))

    def test_refusals(self):
        for figures in all_figures():
            one = figures.one
            self.assertEqual(raised(last_column, figures, ()), ("BadPoly", (0, "degree")))
            self.assertEqual(raised(last_column, figures, (one,)), ("BadPoly", (0, "degree")))
            self.assertEqual(raised(last_column, figures, (one,) * 7), ("BadPoly", (0, "degree")))
            self.assertEqual(raised(last_column, figures, None), ("BadPoly", (0, "many")))
        for prime in PRIMES[1:]:
            self.assertEqual(raised(last_column, Figures(prime), (1, 1, 2)), ("BadPoly", (2, "led")))


if __name__ == "__main__":
    unittest.main()
