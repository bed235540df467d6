"""Promises 1.02 and 1.04: pairs [1.4], [1.5], [1.6], [0.6], [0.7], [0.9]."""

import unittest

from helpers import PRIMES, all_figures, drawer, drawn_invertible, drawn_number, drawn_pair, drawn_table
from helpers import long_number, most_sides, numbers, pair, plain_times, raised, table
from sparedproducts.figures import Figures
from sparedproducts.pairs import Pair, zero_pair
from sparedproducts.solving import undone_table, unit_table


def zeros(figures, rows, columns):
    return ((figures.zero,) * columns,) * rows


class MakingTest(unittest.TestCase):

    def test_every_size(self):
        draw = drawer(13)
        for figures in all_figures():
            for rows in range(1, most_sides(figures) + 1):
                for columns in range(1, most_sides(figures) + 1):
                    first = drawn_table(figures, draw, rows, columns)
                    second = drawn_table(figures, draw, rows, columns)
                    made = Pair(figures, [list(row) for row in first], [list(row) for row in second])
                    self.assertEqual((made.first, made.second), (first, second))
                    self.assertEqual((made.rows, made.columns), (rows, columns))
                    self.assertEqual(made.figures, figures)
                    self.assertIs(type(made.first), tuple)
                    self.assertIs(type(made.second[0]), tuple)

    def test_bad_tables(self):
        for figures in all_figures():
            good = ((figures.one,),)
            for thing, due in ((None, (0, "rows")), ((), (0, "rows")), (good * 6, (0, "rows")),
                               (((),), (0, "columns")), ((None,), (0, "columns")),
                               (((figures.one,) * 6,), (0, "columns")),
                               (good + ((figures.one,) * 2,), (1, "columns")),
                               (good + ((True,),), (1, "number")), ((("1",),), (0, "number"))):
                self.assertEqual(raised(Pair, figures, thing, good), ("BadTable", due))
                self.assertEqual(raised(Pair, figures, good, thing), ("BadTable", due))
            # The first table comes ahead of the second one, both ahead of their sizes.
            self.assertEqual(raised(Pair, figures, ((None,),), ()), ("BadTable", (0, "number")))
            self.assertEqual(raised(Pair, figures, good * 2, ((None,),)), ("BadTable", (0, "number")))

    def test_bad_sizes(self):
        for figures in all_figures():
            one = figures.one
            self.assertEqual(raised(Pair, figures, ((one,),), ((one,),) * 2), ("BadPair", ("size",)))
            self.assertEqual(raised(Pair, figures, ((one,),), ((one, one),)), ("BadPair", ("size",)))
            # Unlike sizes are told ahead of wide ones.
            self.assertEqual(raised(Pair, figures, ((one,),) * 5, ((one,),)), ("BadPair", ("size",)))

    def test_as_wide_as_the_prime(self):
        for prime in PRIMES:
            figures = Figures(prime)
            for rows in range(1, 6):
                for columns in range(1, 6):
                    made = zeros(figures, rows, columns)
                    due = ("BadPair", ("wide",)) if max(rows, columns) > prime else None
                    self.assertEqual(raised(Pair, figures, made, made), due)
                    self.assertEqual(raised(zero_pair, figures, rows, columns), due)

    def test_zero_pair(self):
        for figures in all_figures():
            for rows in range(1, most_sides(figures) + 1):
                made = zero_pair(figures, rows, 1)
                self.assertEqual((made.first, made.second), (zeros(figures, rows, 1),) * 2)
            for thing in (0, 6, -1, True, None, "1", 1.0, (1,), 10 ** 20):
                self.assertEqual(raised(zero_pair, figures, thing, 1), ("BadPair", ("size",)))
                self.assertEqual(raised(zero_pair, figures, 1, thing), ("BadPair", ("size",)))
                # The size comes ahead of the width.
                self.assertEqual(raised(zero_pair, figures, 5, thing), ("BadPair", ("size",)))

    def test_equality(self):
        for figures in all_figures():
            one = pair(figures, ((1, 0),), ((0, 1),))
            self.assertTrue(one == pair(figures, ((1, 0),), ((0, 1),)))
            self.assertTrue(one != pair(figures, ((0, 1),), ((0, 1),)))
            self.assertTrue(one != pair(figures, ((1, 0),), ((1, 1),)))
            self.assertTrue(one != one.flipped())
            self.assertFalse(one == (one.first, one.second))
            self.assertFalse(one == None)  # noqa: E711
        self.assertTrue(zero_pair(Figures(5), 2, 2) != zero_pair(Figures(7), 2, 2))

    def test_it_keeps_copies(self):
        figures = Figures(3)
        first, second = [[1, 2], [0, 1]], [[0, 0], [2, 1]]
        made = Pair(figures, first, second)
        first[0][0] = 0
        second.append([1, 1])
        self.assertEqual(made, Pair(figures, ((1, 2), (0, 1)), ((0, 0), (2, 1))))
        self.assertEqual((first, second), ([[0, 2], [0, 1]], [[0, 0], [2, 1], [1, 1]]))


class ChangingTest(unittest.TestCase):

    def test_turned(self):
        draw = drawer(14)
        for figures in all_figures():
            for _ in range(12):
                rows, columns = (draw.randint(1, most_sides(figures)) for _ in range(2))
                given = drawn_pair(figures, draw, rows, columns)
                left, right = drawn_invertible(figures, draw, rows), drawn_invertible(figures, draw, columns)
                made = given.turned([list(row) for row in left], right)
                for old, new in ((given.first, made.first), (given.second, made.second)):
                    self.assertEqual(plain_times(figures, plain_times(figures, left, old), right), new)
                back = made.turned(undone_table(figures, left), undone_table(figures, right))
                self.assertEqual(back, given)
                self.assertEqual(given.turned(unit_table(figures, rows), unit_table(figures, columns)), given)

    def test_turned_refuses(self):
        for figures in all_figures():
            given = zero_pair(figures, 1, 2)
            left, right = unit_table(figures, 1), unit_table(figures, 2)
            flat = ((figures.one,) * 2,) * 2
            for thing, due in ((None, (0, "rows")), (right, (0, "rows")), ((), (0, "rows")),
                               ((None,), (0, "columns")), (((figures.one,) * 2,), (0, "columns")),
                               (((True,),), (0, "number"))):
                self.assertEqual(raised(given.turned, thing, right), ("BadTable", due))
                self.assertEqual(raised(given.turned, thing, None), ("BadTable", due))
            self.assertEqual(raised(given.turned, left, left), ("BadTable", (0, "rows")))
            self.assertEqual(raised(given.turned, left, (right[0], right[1] + (figures.one,))),
                             ("BadTable", (1, "columns")))
            self.assertEqual(raised(given.turned, left, (right[0], (None, None))), ("BadTable", (1, "number")))
            self.assertEqual(raised(given.turned, left, flat), ("NotOnce", ()))
            self.assertEqual(raised(given.turned, ((figures.zero,),), right), ("NotOnce", ()))
            # A wrong right table is told ahead of a left one that is not invertible.
            self.assertEqual(raised(given.turned, ((figures.zero,),), None), ("BadTable", (0, "rows")))

    def test_mixed(self):
        draw = drawer(15)
        for figures in all_figures():
            for _ in range(12):
                given = drawn_pair(figures, draw, draw.randint(1, 2), draw.randint(1, 2))
                mix = drawn_invertible(figures, draw, 2)
                made = given.mixed([list(row) for row in mix])
                for (a, b), new in zip(mix, (made.first, made.second)):
                    due = tuple(tuple(figures.plus(figures.times(a, x), figures.times(b, y)) for x, y in zip(*rows))
                                for rows in zip(given.first, given.second))
                    self.assertEqual(new, due)
                self.assertEqual(made.mixed(undone_table(figures, mix)), given)

    def test_mixed_refuses(self):
        for figures in all_figures():
            given = zero_pair(figures, 1, 1)
            zero, one = figures.zero, figures.one
            for thing, due in ((None, (0, "rows")), (((one, zero),), (0, "rows")), (((one, zero),) * 3, (0, "rows")),
                               (((one,), (one,)), (0, "columns")), (((one, zero), None), (1, "columns")),
                               (((one, zero), (one, True)), (1, "number"))):
                self.assertEqual(raised(given.mixed, thing), ("BadTable", due))
            self.assertEqual(raised(given.mixed, ((one, one), (one, one))), ("NotOnce", ()))
            self.assertEqual(raised(given.mixed, ((zero, zero), (zero, zero))), ("NotOnce", ()))

    def test_flipped(self):
        figures = Figures(7)
        made = Pair(figures, ((1, 2, 3), (4, 5, 6)), ((0, 0, 1), (2, 0, 0))).flipped()
        self.assertEqual((made.first, made.second), (((1, 4), (2, 5), (3, 6)), ((0, 2), (0, 0), (1, 0))))
        self.assertEqual((made.rows, made.columns), (3, 2))

    def test_beside(self):
        for figures in all_figures():
            if figures.prime == 2:
                continue
            one = pair(figures, ((1, 2),), ((0, 1),))
            other = pair(figures, ((1,), (2,)), ((2,), (0,)))
            made = one.beside(other)
            self.assertEqual(made, pair(figures, ((1, 2, 0), (0, 0, 1), (0, 0, 2)), ((0, 1, 0), (0, 0, 2), (0, 0, 0))))
        self.assertEqual(zero_pair(Figures(2), 1, 1).beside(zero_pair(Figures(2), 1, 1)), zero_pair(Figures(2), 2, 2))
        self.assertEqual(zero_pair(Figures(5), 2, 4).beside(zero_pair(Figures(5), 3, 1)), zero_pair(Figures(5), 5, 5))

    def test_beside_refuses(self):
        one = zero_pair(Figures(0), 3, 1)
        self.assertEqual(raised(one.beside, one), ("BadPair", ("size",)))
        self.assertEqual(raised(one.flipped().beside, one.flipped()), ("BadPair", ("size",)))
        # Unlike figures are told ahead of the size, the size ahead of the width.
        self.assertEqual(raised(one.beside, zero_pair(Figures(5), 3, 1)), ("Unlike", ()))
        self.assertEqual(raised(zero_pair(Figures(3), 1, 1).beside, zero_pair(Figures(5), 1, 1)), ("Unlike", ()))
        self.assertEqual(raised(zero_pair(Figures(3), 2, 1).beside, zero_pair(Figures(3), 2, 1)), ("BadPair", ("wide",)))
        self.assertEqual(raised(zero_pair(Figures(3), 1, 3).beside, zero_pair(Figures(3), 1, 3)), ("BadPair", ("size",)))
        self.assertEqual(raised(zero_pair(Figures(2), 1, 2).beside, zero_pair(Figures(2), 1, 1)), ("BadPair", ("wide",)))


class CutOutTest(unittest.TestCase):

    def test_what_is_kept(self):
        figures = Figures(0)
        given = pair(figures, ((1, 2, 3), (4, 5, 6)), ((7, 8, 9), (10, 11, 12)))
        self.assertEqual(given.cut_out([1], (0, 2)), pair(figures, ((4, 6),), ((10, 12),)))
        self.assertEqual(given.cut_out((0, 1), [0, 1, 2]), given)
        self.assertEqual(given.cut_out((0,), (1,)), pair(figures, ((2,),), ((8,),)))

    def test_refusals(self):
        for figures in all_figures():
            given = zero_pair(figures, 2, 1)
            for thing, index in ((None, 0), (0, 0), ("01", 0), ({0}, 0), ((), 0), ([], 0), ((2,), 0), ((-1,), 0),
                                 ((True,), 0), ((False, 1), 0), ((0, True), 1), ((None, 0), 0), ((0, 0), 1), ((1, 0), 1),
                                 ((0, 1, 2), 2), ((0, 1, 1), 2), ((0, "1"), 1), ((0, 2), 1)):
                self.assertEqual(raised(given.cut_out, thing, (0,)), ("BadKept", ("rows", index)))
                self.assertEqual(raised(given.flipped().cut_out, (0,), thing), ("BadKept", ("columns", index)))
                self.assertEqual(raised(given.cut_out, thing, None), ("BadKept", ("rows", index)))
            self.assertEqual(raised(given.cut_out, (0, 1), (1,)), ("BadKept", ("columns", 0)))


class AnswersTest(unittest.TestCase):

    def test_answers(self):
        draw = drawer(16)
        for figures in all_figures():
            for _ in range(15):
                rows, columns = (draw.randint(1, most_sides(figures)) for _ in range(2))
                given = drawn_pair(figures, draw, rows, columns)
                left = [drawn_number(figures, draw) for _ in range(rows)]
                right = tuple(drawn_number(figures, draw) for _ in range(columns))
                due = tuple(plain_times(figures, plain_times(figures, (left,), made), [(n,) for n in right])[0][0]
                            for made in (given.first, given.second))
                self.assertEqual(given.answers(left, right), due)

    def test_long_numbers(self):
        figures = Figures(0)
        draw = drawer(17)
        given = Pair(figures, [[long_number(draw)]], [[long_number(draw)]])
        one, other = long_number(draw), long_number(draw)
        made = figures.times(one, other)
        self.assertEqual(given.answers((one,), (other,)),
                         (figures.times(made, given.first[0][0]), figures.times(made, given.second[0][0])))

    def test_complex_numbers(self):
        figures = Figures(0)
        given = pair(figures, ((1, 0), (0, -1)), ((0, 1), (1, 0)))
        self.assertEqual(given.answers(numbers(figures, (2, 3)), numbers(figures, (5, 7))), numbers(figures, (-11, 29)))

    def test_refusals(self):
        for figures in all_figures():
            given = zero_pair(figures, 2, 1)
            one = figures.one
            for thing, index in ((None, 0), ("ab", 0), ((), 0), ((one,), 1), ((one,) * 3, 2), ((one, None), 1),
                                 ((True, one), 0), ((one, True, one), 1), ((None,), 0), ((one, one, None), 2)):
                self.assertEqual(raised(given.answers, thing, (one,)), ("BadLetters", ("left", index)))
                self.assertEqual(raised(given.flipped().answers, (one,), thing), ("BadLetters", ("right", index)))
                # Left letters come ahead of right ones.
                self.assertEqual(raised(given.answers, thing, None), ("BadLetters", ("left", index)))


if __name__ == "__main__":
    unittest.main()
