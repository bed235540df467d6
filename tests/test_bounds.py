"""Promise 3.03: bounds, the greatest number of a size, the hardest pairs [4.7], [4.8]."""

import unittest

from drawnblocks import drawn_blocks, drawn_mixed, drawn_turned
from helpers import PRIMES, all_figures, drawer, drawn_pair, most_sides, numbers, pair, raised
from secondway import number_by_ranks
from sparedproducts.blocks import blocks_pair, lying_pair, square_pair
from sparedproducts.bounds import hardest_pair, high_bound, low_bound, most_of
from sparedproducts.counts import fewest_of
from sparedproducts.figures import Figures
from sparedproducts.pairs import Pair, zero_pair
from sparedproducts.solving import rank_of

# The greatest number for rows 1 to 5 by columns 1 to 5, written out.
GREATEST = ((1, 2, 2, 2, 2), (2, 3, 3, 4, 4), (2, 3, 4, 5, 5), (2, 4, 5, 6, 6), (2, 4, 5, 6, 7))
NO_SIZES = (0, 6, -1, True, False, None, "1", 1.0, (1,), 10 ** 20)


class BoundsTest(unittest.TestCase):

    def judge(self, given):
        figures = given.figures
        beside = rank_of(figures, [one + other for one, other in zip(given.first, given.second)])
        above = rank_of(figures, given.first + given.second)
        self.assertEqual(low_bound(given), max(beside, above))
        self.assertEqual(high_bound(given), rank_of(figures, given.first) + rank_of(figures, given.second))
        number = fewest_of(given).number
        self.assertTrue(low_bound(given) <= number <= high_bound(given))
        self.assertLessEqual(number, most_of(given.rows, given.columns))
        return low_bound(given), number, high_bound(given)

    def test_drawn_pairs_of_every_size(self):
        draw = drawer(131)
        for figures in all_figures():
            for rows in range(1, most_sides(figures) + 1):
                for columns in range(1, most_sides(figures) + 1):
                    for filled in (1.0, 0.4):
                        self.judge(drawn_pair(figures, draw, rows, columns, filled))
                    self.assertEqual(self.judge(zero_pair(figures, rows, columns)), (0, 0, 0))

    def test_built_blocks(self):
        draw = drawer(132)
        for figures in all_figures():
            for _ in range(25):
                self.judge(drawn_turned(drawn_mixed(blocks_pair(figures, drawn_blocks(figures, draw)), draw), draw))

    def test_bounds_that_are_met_and_that_are_not(self):
        for figures in all_figures():
            self.assertEqual(self.judge(lying_pair(figures, 1)), (2, 2, 2))
            self.assertEqual(self.judge(lying_pair(figures, 1).flipped()), (2, 2, 2))
            self.assertEqual(self.judge(square_pair(figures, numbers(figures, (0, 0, 1)))), (2, 3, 3))
            self.assertEqual(self.judge(square_pair(figures, numbers(figures, (0, -1, 1)))), (2, 2, 3))
            one, zero = ((figures.one,),), ((figures.zero,),)
            self.assertEqual(self.judge(Pair(figures, one, zero)), (1, 1, 1))
            self.assertEqual(self.judge(Pair(figures, one, one)), (1, 1, 2))

    def test_example(self):
        figures = Figures(0)
        given = pair(figures, ((1, 0, 0), (0, 1, 0), (0, 0, 1)), ((1, 0, 0), (0, 0, -1), (0, 1, 2)))
        self.assertEqual(self.judge(given), (3, 4, 6))
        self.assertEqual(most_of(3, 3), 4)


class HardestTest(unittest.TestCase):

    def test_greatest_numbers(self):
        for rows in range(1, 6):
            for columns in range(1, 6):
                self.assertEqual(most_of(rows, columns), GREATEST[rows - 1][columns - 1])

    def test_hardest_pairs(self):
        for figures in all_figures():
            for rows in range(1, most_sides(figures) + 1):
                for columns in range(1, most_sides(figures) + 1):
                    made = hardest_pair(figures, rows, columns)
                    self.assertIsInstance(made, Pair)
                    self.assertEqual((made.figures, made.rows, made.columns), (figures, rows, columns))
                    self.assertEqual(fewest_of(made).number, GREATEST[rows - 1][columns - 1])
                    self.assertEqual(number_by_ranks(made), GREATEST[rows - 1][columns - 1])
                    self.assertEqual(hardest_pair(figures, rows, columns), made)

    def test_no_sizes(self):
        for thing in NO_SIZES:
            self.assertEqual(raised(most_of, thing, 1), ("BadPair", ("size",)))
            self.assertEqual(raised(most_of, 1, thing), ("BadPair", ("size",)))
            for figures in all_figures():
                self.assertEqual(raised(hardest_pair, figures, thing, 1), ("BadPair", ("size",)))
                self.assertEqual(raised(hardest_pair, figures, 1, thing), ("BadPair", ("size",)))

    def test_too_wide(self):
        for prime in PRIMES:
            figures = Figures(prime)
            for many in range(1, 6):
                due = ("BadPair", ("wide",)) if many > prime else None
                self.assertEqual(raised(hardest_pair, figures, many, 1), due)
                self.assertEqual(raised(hardest_pair, figures, 1, many), due)
        # The size is told first, whichever side it is.
        for thing in NO_SIZES:
            self.assertEqual(raised(hardest_pair, Figures(2), 5, thing), ("BadPair", ("size",)))
            self.assertEqual(raised(hardest_pair, Figures(3), thing, 4), ("BadPair", ("size",)))


if __name__ == "__main__":
    unittest.main()
