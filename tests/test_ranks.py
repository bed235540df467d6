"""Promises 3.01, 3.03: the three ranks [4.5], and the ranks of single answers [4.7]."""

import unittest

from drawnblocks import degrees, drawn_blocks, drawn_mixed, drawn_turned, sides
from helpers import all_figures, drawer, drawn_pair, long_number, most_sides, numbers, pair, raised
from secondway import all_points, plain_common_rank
from sparedproducts.blocks import blocks_pair, rank_at, square_pair
from sparedproducts.figures import Figures
from sparedproducts.pairs import Pair, zero_pair
from sparedproducts.ranks import rank_alone, three_ranks
from sparedproducts.solving import rank_of

NO_ANSWERS = (True, False, None, 2, -1, "0", 0.0, (0,), 10 ** 20)


class ThreeRanksTest(unittest.TestCase):

    def test_pairs_of_blocks(self):
        draw = drawer(101)
        for figures in all_figures():
            for _ in range(25):
                due = drawn_blocks(figures, draw)
                given = drawn_turned(drawn_mixed(blocks_pair(figures, due), draw), draw)
                rows, columns = sides(due)
                common = sum(due.lying) + sum(due.standing) + sum(degrees(due.polys))
                made = three_ranks(given)
                # Beside one another all rows but the idle ones are told apart, above one another all columns.
                self.assertEqual(made, (rows - due.idle_rows, columns - due.idle_columns, common))
                self.assertIs(type(made), tuple)
                self.assertEqual(three_ranks(given.flipped()), (made[1], made[0], made[2]))

    def test_drawn_pairs_of_every_size(self):
        draw = drawer(102)
        for figures in all_figures():
            for rows in range(1, most_sides(figures) + 1):
                for columns in range(1, most_sides(figures) + 1):
                    given = drawn_pair(figures, draw, rows, columns, draw.random())
                    beside = rank_of(figures, [[*one, *other] for one, other in zip(given.first, given.second)])
                    above = rank_of(figures, [*given.first, *given.second])
                    self.assertEqual(three_ranks(given), (beside, above, plain_common_rank(given)))
                    self.assertEqual(three_ranks(zero_pair(figures, rows, columns)), (0, 0, 0))

    def test_common_rank_at_last_alone(self):
        for prime in (2, 3, 5):
            figures = Figures(prime)
            given = pair(figures, [[(-i if i == j else 0) for j in range(prime)] for i in range(prime)],
                         [[(1 if i == j else 0) for j in range(prime)] for i in range(prime)])
            self.assertEqual(max(rank_at(given, point) for point in range(prime)), prime - 1)
            self.assertEqual(three_ranks(given), (prime, prime, prime))

    def test_common_rank_at_the_last_number_tried(self):
        figures = Figures(0)
        given = pair(figures, [[(i if i == j else 0) for j in range(5)] for i in range(5)],
                     [[(-1 if i == j else 0) for j in range(5)] for i in range(5)])
        self.assertEqual(three_ranks(given), (5, 5, 5))

    def test_example(self):
        figures = Figures(0)
        given = pair(figures, ((1, 0, 0), (0, 1, 0), (0, 0, 1)), ((1, 0, 0), (0, 0, -1), (0, 1, 2)))
        self.assertEqual(three_ranks(given), (3, 3, 3))


class RankAloneTest(unittest.TestCase):

    def test_ranks_of_both_tables(self):
        draw = drawer(103)
        for figures in all_figures():
            for _ in range(10):
                given = drawn_pair(figures, draw, draw.randint(1, most_sides(figures)),
                                   draw.randint(1, most_sides(figures)), draw.random())
                self.assertEqual(rank_alone(given, 0), rank_of(figures, given.first))
                self.assertEqual(rank_alone(given, 1), rank_of(figures, given.second))
                self.assertEqual(rank_alone(given, 0), rank_at(given, all_points(figures)[0] if figures.prime
                                                               else figures.zero))
                self.assertEqual(rank_alone(given, 1), rank_at(given, "last"))
        figures = Figures(0)
        given = square_pair(figures, numbers(figures, (0, 0, 1)))
        self.assertEqual((rank_alone(given, 0), rank_alone(given, 1)), (2, 1))

    def test_no_answers(self):
        for figures in all_figures():
            for thing in NO_ANSWERS:
                self.assertEqual(raised(rank_alone, zero_pair(figures, 1, 2), thing), ("BadChange", ("answer",)))

    def test_nothing_is_changed(self):
        figures = Figures(0)
        draw = drawer(104)
        given = Pair(figures, *[[[long_number(draw) for _ in range(3)] for _ in range(2)] for _ in range(2)])
        copy = Pair(figures, given.first, given.second)
        self.assertEqual(three_ranks(given), three_ranks(copy))
        self.assertEqual(three_ranks(given), (2, 3, 2))
        self.assertEqual(given, copy)


if __name__ == "__main__":
    unittest.main()
