"""Promises 3.01, 3.02, 3.04, 3.07, 3.10: fewest products, what blocks cost, changes [4.1] to [4.5], [4.9]."""

import unittest

from drawnblocks import blocks, determined, drawn_blocks, drawn_kinds, drawn_mixed, drawn_row_of_polys, drawn_turned
from drawnblocks import sides
from helpers import PRIMES, all_figures, drawer, drawn_number, drawn_pair, most_sides, numbers, pair, raised
from secondway import due_number, due_row, number_by_ranks, plainly_apart
from sparedproducts.blocks import blocks_fault, blocks_of, blocks_pair, lying_pair, square_pair, standing_pair
from sparedproducts.counts import Fewest, changed_pair, extra_of, fewest_changed, fewest_of, fewest_row
from sparedproducts.figures import Figures
from sparedproducts.pairs import Pair, zero_pair
from sparedproducts.polys import poly_of_roots, poly_times
from sparedproducts.ranks import three_ranks


class FewestTest(unittest.TestCase):

    def judge(self, given):
        """All that is told of the result, its number by the second way too."""
        figures = given.figures
        made = fewest_of(given)
        self.assertIsInstance(made, Fewest)
        self.assertEqual(determined(made.blocks), determined(blocks_of(given)))
        self.assertIsNone(blocks_fault(given, made.blocks))
        self.assertIs(type(made.extras), tuple)
        beside, above, common = three_ranks(given)
        self.assertEqual(made.number, beside + above - common + len(made.extras))
        self.assertEqual(made.number, number_by_ranks(given))
        self.assertEqual(made.number == 0, given == zero_pair(figures, given.rows, given.columns))
        row = fewest_row(given)
        self.assertIs(type(row), tuple)
        self.assertTrue(all(type(entry) is tuple and len(entry) == 3 for entry in row))
        self.assertEqual(made.number, sum(cost for _, _, cost in row))
        self.assertEqual(len(made.extras), extra_of(figures, made.blocks.polys))
        return made

    def test_drawn_pairs_of_every_size(self):
        draw = drawer(111)
        for figures in all_figures():
            for rows in range(1, most_sides(figures) + 1):
                for columns in range(1, most_sides(figures) + 1):
                    for filled in (1.0, 0.6, 0.3):
                        self.judge(drawn_pair(figures, draw, rows, columns, filled))

    def test_built_blocks_behind_mixes_and_turnings(self):
        for figures, due, given in drawn_kinds(112, 30):
            made = self.judge(given)
            self.assertEqual(made.number, due_number(figures, due))
            self.assertEqual(len(made.extras), sum(not plainly_apart(figures, poly) for poly in due.polys))
            self.assertEqual(fewest_row(given), due_row(figures, due))

    def test_extras_are_the_polys_that_stay(self):
        draw = drawer(113)
        for figures in all_figures():
            for _ in range(30):
                due = drawn_blocks(figures, draw)
                made = fewest_of(drawn_turned(blocks_pair(figures, due), draw))
                self.assertEqual(made.extras, tuple(poly for poly in due.polys if not plainly_apart(figures, poly)))

    def test_equal_extras_each_time(self):
        for figures in all_figures():
            if figures.prime != 2 and figures.prime != 3:
                poly = numbers(figures, (0, 0, 1))
                made = self.judge(drawn_turned(blocks_pair(figures, blocks(polys=(poly, poly))), drawer(114)))
                self.assertEqual((made.number, made.extras), (6, (poly, poly)))

    def test_zeros_alone_need_none(self):
        for figures in all_figures():
            for rows in range(1, most_sides(figures) + 1):
                for columns in range(1, most_sides(figures) + 1):
                    made = self.judge(zero_pair(figures, rows, columns))
                    self.assertEqual((made.number, made.extras), (0, ()))
                    self.assertEqual(fewest_row(zero_pair(figures, rows, columns)), ())
                    for answer in (0, 1):
                        given = changed_pair(zero_pair(figures, rows, columns), answer, rows - 1, columns - 1,
                                             figures.one)
                        self.assertEqual(self.judge(given).number, 1)

    def test_first_table_without_inverse(self):
        draw = drawer(115)
        for figures in all_figures():
            most = most_sides(figures)
            for _ in range(6):
                given = drawn_pair(figures, draw, most, most)
                zeros = zero_pair(figures, most, most).first
                self.judge(Pair(figures, zeros[:1] + given.first[1:], given.second))
                self.assertEqual(self.judge(Pair(figures, zeros, given.second)).number,
                                 self.judge(Pair(figures, given.second, zeros)).number)

    def test_last_alone(self):
        for prime in (2, 3, 5):
            figures = Figures(prime)
            given = pair(figures, [[(-i if i == j else 0) for j in range(prime)] for i in range(prime)],
                         [[(1 if i == j else 0) for j in range(prime)] for i in range(prime)])
            made = self.judge(drawn_turned(given, drawer(prime)))
            self.assertEqual((made.number, made.extras), (prime, ()))
            self.assertEqual(fewest_row(given), (("square", prime, prime),))

    def test_complex_numbers(self):
        for figures in all_figures():
            made = self.judge(pair(figures, ((1, 0), (0, -1)), ((0, 1), (1, 0))))
            self.assertEqual(made.number, 2 if figures.prime in (5, 13) else 3)

    def test_example(self):
        figures = Figures(0)
        given = pair(figures, ((1, 0, 0), (0, 1, 0), (0, 0, 1)), ((1, 0, 0), (0, 0, -1), (0, 1, 2)))
        made = self.judge(given)
        self.assertEqual(made.number, 4)
        self.assertEqual(made.extras, (numbers(figures, (1, -2, 1)),))
        self.assertEqual(made.blocks.polys, (numbers(figures, (-1, 1)), numbers(figures, (1, -2, 1))))
        self.assertEqual(fewest_row(given), (("square", 1, 1), ("square", 2, 3)))

    def test_single_blocks(self):
        for figures in all_figures():
            for size in range(1, most_sides(figures)):
                self.assertEqual(fewest_row(lying_pair(figures, size)), (("lying", size, size + 1),))
                self.assertEqual(fewest_row(standing_pair(figures, size)), (("standing", size, size + 1),))
            for size in range(1, most_sides(figures) + 1):
                apart = poly_of_roots(figures, [figures.whole_number(many) for many in range(size)])
                self.assertEqual(fewest_row(square_pair(figures, apart)), (("square", size, size),))
                power = (figures.zero,) * size + (figures.one,)
                self.assertEqual(fewest_row(square_pair(figures, power)), (("square", size, size + (size > 1)),))
                self.assertEqual(self.judge(square_pair(figures, power)).extras, (power,) * (size > 1))

    def test_irreducible_factors(self):
        # A factor of degree 2 or more without a root needs one more; so does a root that comes twice.
        for prime, poly in ((2, (1, 1, 1)), (3, (1, 0, 1)), (5, (2, 0, 1)), (7, (1, 0, 1)), (11, (1, 0, 1)),
                            (13, (2, 0, 1)), (0, (-2, 0, 1))):
            figures = Figures(prime)
            poly = numbers(figures, poly)
            self.assertEqual(fewest_of(square_pair(figures, poly)).number, 3)
            if prime != 2:
                longer = poly_times(figures, poly, numbers(figures, (-1, 1)))
                self.assertEqual(fewest_of(square_pair(figures, longer)).number, 4)

    def test_said_again(self):
        for _, _, given in drawn_kinds(116, 5):
            copy = Pair(given.figures, [list(row) for row in given.first], given.second)
            one, other = fewest_of(given), fewest_of(copy)
            self.assertEqual((one.number, one.extras), (other.number, other.extras))
            self.assertEqual((one.blocks.left, one.blocks.right), (other.blocks.left, other.blocks.right))
            self.assertEqual(fewest_row(given), fewest_row(copy))
            self.assertEqual(given, copy)

    def test_results_keep_what_they_are_given(self):
        made = Fewest("a", [1], None)
        self.assertEqual((made.number, made.blocks, made.extras), ("a", [1], None))
        self.assertFalse(made == Fewest("a", [1], None))


class StayingTest(unittest.TestCase):

    def test_turned_and_mixed(self):
        for figures, due, given in drawn_kinds(117, 20):
            draw = drawer(118)
            row = fewest_row(given)
            self.assertEqual(fewest_row(drawn_turned(given, draw)), row)
            self.assertEqual(fewest_row(drawn_mixed(given, draw)), row)
            self.assertEqual(fewest_of(drawn_mixed(drawn_turned(given, draw), draw)).number, fewest_of(given).number)

    def test_flipped(self):
        for figures, due, given in drawn_kinds(119, 20):
            flipped = blocks(due.idle_columns, due.idle_rows, due.standing, due.lying, due.polys)
            self.assertEqual(fewest_row(given.flipped()), due_row(figures, flipped))
            self.assertEqual(fewest_of(given.flipped()).number, fewest_of(given).number)

    def test_zeros_beside(self):
        for figures, due, given in drawn_kinds(120, 20):
            most = most_sides(figures)
            for rows in range(1, most - given.rows + 1):
                for columns in range(1, most - given.columns + 1):
                    zeros = zero_pair(figures, rows, columns)
                    self.assertEqual(fewest_row(given.beside(zeros)), fewest_row(given))
                    self.assertEqual(fewest_row(zeros.beside(given)), fewest_row(given))

    def test_idle_rows_cost_nothing(self):
        for figures, due, given in drawn_kinds(121, 20):
            rows, columns = sides(due)
            if rows - due.idle_rows and columns - due.idle_columns:
                less = blocks(0, 0, due.lying, due.standing, due.polys)
                self.assertEqual(fewest_row(blocks_pair(figures, less)), fewest_row(given))

    def test_cut_outs_need_no_more(self):
        for figures, due, given in drawn_kinds(122, 12):
            number = fewest_of(given).number
            for row in range(given.rows):
                if given.rows > 1:
                    kept = [place for place in range(given.rows) if place != row]
                    less = fewest_of(given.cut_out(kept, range_of(given.columns))).number
                    self.assertTrue(number - 2 <= less <= number)
            for column in range(given.columns):
                if given.columns > 1:
                    kept = [place for place in range(given.columns) if place != column]
                    less = fewest_of(given.cut_out(range_of(given.rows), kept)).number
                    self.assertTrue(number - 2 <= less <= number)

    def test_a_strike_may_spare_two(self):
        # A lying block of size 1 has one row; without it nothing of the block stays.
        figures = Figures(5)
        given = blocks_pair(figures, blocks(lying=(1, 1)))
        self.assertEqual(fewest_of(given).number, 4)
        self.assertEqual(fewest_of(given.cut_out((0,), (0, 1, 2, 3))).number, 2)

    def test_rows_that_are_sums_of_others(self):
        draw = drawer(123)
        for figures in all_figures():
            most = most_sides(figures)
            for _ in range(12):
                given = drawn_pair(figures, draw, draw.randint(1, most - 1), draw.randint(1, most), 0.7)
                number = drawn_number(figures, draw)
                tables = [given_table + (tuple(figures.plus(one, figures.times(number, other))
                                               for one, other in zip(given_table[0], given_table[-1])),)
                          for given_table in (given.first, given.second)]
                self.assertEqual(fewest_row(Pair(figures, *tables)), fewest_row(given))
                self.assertEqual(fewest_of(Pair(figures, *tables).flipped()).number, fewest_of(given).number)


def range_of(many):
    return tuple(range(many))


class ExtraTest(unittest.TestCase):

    def test_drawn_rows(self):
        draw = drawer(124)
        for figures in all_figures():
            for _ in range(40):
                polys = drawn_row_of_polys(figures, draw)
                if sum(len(poly) - 1 for poly in polys) < 12:
                    due = sum(not plainly_apart(figures, poly) for poly in polys)
                    self.assertEqual(extra_of(figures, polys), due)
                    self.assertEqual(extra_of(figures, [list(poly) for poly in polys]), due)

    def test_each_time_and_none(self):
        for figures in all_figures():
            square = numbers(figures, (0, 0, 1))
            straight = numbers(figures, (1, 1))
            self.assertEqual(extra_of(figures, ()), 0)
            self.assertEqual(extra_of(figures, []), 0)
            self.assertEqual(extra_of(figures, (straight, square, straight)), 1)
            self.assertEqual(extra_of(figures, [square] * 7), 7)
            self.assertEqual(extra_of(figures, (square, list(square), straight, square)), 3)

    def test_polys_not_led_by_one(self):
        for figures in all_figures():
            if figures.prime != 2:
                poly = numbers(figures, (0, 2, 2))
                self.assertEqual(extra_of(figures, [poly, numbers(figures, (0, 0, 2))]), 1)

    def test_all_numbers_as_roots(self):
        for prime in PRIMES:
            figures = Figures(prime)
            roots = figures.all_numbers()[:11]
            apart = poly_of_roots(figures, roots)
            self.assertEqual(extra_of(figures, [apart]), 0)
            if len(roots) < 11:
                self.assertEqual(extra_of(figures, [apart, poly_times(figures, apart, (0, 1))]), 1)


class ChangeTest(unittest.TestCase):

    def test_changed_pairs(self):
        draw = drawer(125)
        for figures in all_figures():
            for _ in range(15):
                given = drawn_pair(figures, draw, draw.randint(1, most_sides(figures)),
                                   draw.randint(1, most_sides(figures)), 0.7)
                answer, row, column = draw.randrange(2), draw.randrange(given.rows), draw.randrange(given.columns)
                number = drawn_number(figures, draw)
                tables = [[list(line) for line in given.first], [list(line) for line in given.second]]
                tables[answer][row][column] = number
                due = Pair(figures, *tables)
                copy = Pair(figures, given.first, given.second)
                self.assertEqual(changed_pair(given, answer, row, column, number), due)
                self.assertEqual(given, copy)
                made = fewest_changed(given, answer, row, column, number)
                self.assertEqual(made.number, number_by_ranks(due))
                self.assertIsNone(blocks_fault(due, made.blocks))
                self.assertLessEqual(abs(made.number - fewest_of(given).number), 1)
                self.assertEqual(changed_pair(given, answer, row, column, tables_at(given, answer)[row][column]), given)

    def test_one_up_and_one_down(self):
        figures = Figures(5)
        given = pair(figures, ((1, 0), (0, 1)), ((0, 0), (0, 0)))
        self.assertEqual(fewest_of(given).number, 2)
        self.assertEqual(fewest_changed(given, 1, 0, 1, 1).number, 3)
        self.assertEqual(fewest_changed(given, 0, 0, 0, 0).number, 1)
        self.assertEqual(fewest_changed(given, 1, 0, 0, 1).number, 2)

    def test_first_bad_argument(self):
        for figures in all_figures():
            given = zero_pair(figures, 1, 2)
            number = figures.one
            bad = {"answer": (True, False, None, 2, -1, "0", (0,), 0.0), "row": (1, -1, True, None, "0", (0,), 10 ** 20),
                   "column": (2, -1, True, False, None, "1", 1.0),
                   "number": (True, None, "1", 1.0, (2, 2), [1, 1], figures.prime or 1, -1)}
            good = {"answer": 1, "row": 0, "column": 1, "number": number}
            names = list(good)
            for deed in (changed_pair, fewest_changed):
                self.assertIsNone(raised(deed, given, 1, 0, 1, number))
                for at, name in enumerate(names):
                    for thing in bad[name]:
                        due = ("BadChange", (name,))
                        arguments = [thing if other == name else good[other] for other in names]
                        self.assertEqual(raised(deed, given, *arguments), due)
                        # All behind it may be wrong too.
                        arguments[at + 1:] = [None] * (3 - at)
                        self.assertEqual(raised(deed, given, *arguments), due)


def tables_at(given, answer):
    return given.second if answer else given.first


if __name__ == "__main__":
    unittest.main()
