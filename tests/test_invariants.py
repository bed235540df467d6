"""Promises 2.08, 2.10, 2.13, 2.14: what no turning changes [3.8] to [3.13]."""

import itertools
import unittest

from drawnblocks import blocks, degrees, drawn_blocks, drawn_mixed, drawn_turned
from helpers import all_figures, drawer, drawn_number, drawn_pair, drawn_table, long_number, most_sides, numbers
from helpers import pair, plain_times, raised, table
from sparedproducts.blocks import blocks_of, blocks_pair
from sparedproducts.figures import Figures
from sparedproducts.invariants import determinant_poly, divisors_of, joined_row, last_sizes, own_poly, poly_at_table
from sparedproducts.invariants import poly_table, row_of_polys
from sparedproducts.pairs import Pair, zero_pair
from sparedproducts.polys import last_column, led_by_one, poly_common, poly_minus, poly_of_roots, poly_over, poly_plus
from sparedproducts.polys import poly_times, value_at
from sparedproducts.solving import table_plus, table_scaled, undone_table, unit_table


def drawn_poly(figures, draw, degree):
    made = [drawn_number(figures, draw) for _ in range(degree + 1)]
    while made and made[-1] == figures.zero:
        made.pop()
    return tuple(made)


def plain_determinant(figures, rows):
    """The sum over all orders of the columns."""
    total = ()
    size = len(rows)
    for order in itertools.permutations(range(size)):
        made = (figures.one,)
        for row, column in enumerate(order):
            made = product_of(figures, made, rows[row][column])
        odd = sum(order[i] > order[j] for i in range(size) for j in range(i + 1, size)) % 2
        total = (poly_minus if odd else poly_plus)(figures, total, made)
    return total


def product_of(figures, one, other):
    return poly_times(figures, one, other) if one and other else ()


def plain_divisors(given):
    rows = poly_table(given)
    found = []
    for many in range(1, min(given.rows, given.columns) + 1):
        common = ()
        for kept in itertools.combinations(range(given.rows), many):
            for places in itertools.combinations(range(given.columns), many):
                common = poly_common(given.figures, common, plain_determinant(
                    given.figures, [[rows[i][j] for j in places] for i in kept]))
        if common:
            found.append(common)
    return tuple(found)


def with_t(figures, many, rest):
    """t ** many times the rest."""
    return (figures.zero,) * many + rest


class DeterminantTest(unittest.TestCase):

    def test_poly_tables(self):
        for figures in all_figures():
            if figures.prime == 2:
                continue
            given = pair(figures, ((1, 0, 2), (0, 0, 1)), ((1, 1, 0), (0, 2, -1)))
            self.assertEqual(poly_table(given), (
                (numbers(figures, (-1, 1)), numbers(figures, (-1,)), numbers(figures, (0, 2))),
                ((), numbers(figures, (-2,)), numbers(figures, (1, 1)))))
        self.assertEqual(poly_table(zero_pair(Figures(2), 2, 1)), (((),), ((),)))
        self.assertEqual(poly_table(Pair(Figures(2), ((1,),), ((1,),))), (((1, 1),),))

    def test_determinants(self):
        draw = drawer(81)
        for figures in all_figures():
            self.assertEqual(determinant_poly(figures, ()), (figures.one,))
            self.assertEqual(determinant_poly(figures, []), (figures.one,))
            for size in range(1, 6):
                for filled in (0, 1, 2):
                    rows = [[drawn_poly(figures, draw, draw.choice((-1, 0, 1, 2)[filled:])) for _ in range(size)]
                            for _ in range(size)]
                    self.assertEqual(determinant_poly(figures, rows), plain_determinant(figures, rows))
            poly = drawn_poly(figures, draw, 2)
            self.assertEqual(determinant_poly(figures, ((list(poly),),)), poly)

    def test_refusals(self):
        for figures in all_figures():
            one, zero = figures.one, figures.zero
            poly = (one,)
            self.assertEqual(raised(determinant_poly, figures, ((poly, poly),)), ("NotSquare", (1, 2)))
            self.assertEqual(raised(determinant_poly, figures, ((),)), ("NotSquare", (1, 0)))
            self.assertEqual(raised(determinant_poly, figures, ((poly, poly), (poly,))), ("NotSquare", (2, 1)))
            self.assertEqual(raised(determinant_poly, figures, ((poly, poly), (poly,) * 3)), ("NotSquare", (2, 3)))
            # Rows of a wrong length are told ahead of any bad poly.
            self.assertEqual(raised(determinant_poly, figures, ((None, None), (poly,))), ("NotSquare", (2, 1)))
            self.assertEqual(raised(determinant_poly, figures, ((poly, (one, zero)), (None, poly))),
                             ("BadPoly", (1, "last")))
            self.assertEqual(raised(determinant_poly, figures, ((poly, poly), (None, (one, zero)))),
                             ("BadPoly", (0, "many")))
            self.assertEqual(raised(determinant_poly, figures, ((poly, poly), (poly, (one, one, None)))),
                             ("BadPoly", (2, "number")))


class RowTest(unittest.TestCase):

    def test_divisors(self):
        draw = drawer(82)
        for figures in all_figures():
            for _ in range(8):
                most = min(3, most_sides(figures))
                given = drawn_pair(figures, draw, draw.randint(1, most), draw.randint(1, most), draw.random())
                made = divisors_of(given)
                self.assertEqual(made, plain_divisors(given))
                for one, other in zip(made, made[1:]):
                    self.assertEqual(poly_over(figures, other, one)[1], ())
            for rows in range(1, most_sides(figures) + 1):
                self.assertEqual(divisors_of(zero_pair(figures, rows, 1)), ())
                self.assertEqual(row_of_polys(zero_pair(figures, 1, rows)), ())
                self.assertEqual(last_sizes(zero_pair(figures, rows, rows)), ())

    def test_large_pairs(self):
        draw = drawer(83)
        for figures in all_figures():
            most = most_sides(figures)
            given = blocks_pair(figures, drawn_blocks(figures, draw))
            self.assertEqual(divisors_of(given), plain_divisors(given))
            given = drawn_pair(figures, draw, most, most)
            due = plain_determinant(figures, poly_table(given))
            if due:
                self.assertEqual(divisors_of(given)[-1], led_by_one(figures, due))

    def test_row_is_that_of_the_blocks(self):
        draw = drawer(84)
        for figures in all_figures():
            for _ in range(25):
                given = drawn_turned(drawn_mixed(blocks_pair(figures, drawn_blocks(figures, draw)), draw), draw)
                made = blocks_of(given)
                self.assertEqual(row_of_polys(given.mixed(made.mix)), made.polys)
                row = row_of_polys(given)
                self.assertEqual(row_of_polys(drawn_turned(given, draw)), row)
                for one, other in zip(row, row[1:]):
                    self.assertEqual(poly_over(figures, other, one)[1], ())
                self.assertTrue(all(len(poly) > 1 and poly[-1] == figures.one for poly in row))
                sizes = last_sizes(given)
                self.assertEqual(sum(degrees(row)) + sum(sizes), sum(degrees(made.polys)))
                self.assertEqual(tuple(sorted(sizes)), sizes)

    def test_last_sizes(self):
        for figures in all_figures():
            zero, one = figures.zero, figures.one
            exchange = ((zero, one), (one, zero))
            for polys, due in ((((one,),), ()), ((with_t(figures, 1, (one,)),), (1,)),
                               ((with_t(figures, 2, (one,)),), (2,)),
                               ((with_t(figures, 1, (one,)), with_t(figures, 1, (one,))), (1, 1)),
                               ((with_t(figures, 1, (one,)), with_t(figures, 2, (one,))), (1, 2)),
                               ((with_t(figures, 2, (one, one)),), (2,)), (((one, one), (one, one)), ())):
                kinds = blocks(polys=tuple(poly for poly in polys if len(poly) > 1))
                if 1 <= sum(degrees(kinds.polys)) <= most_sides(figures):
                    given = blocks_pair(figures, kinds).mixed(exchange)
                    self.assertEqual(last_sizes(given), due)
                    self.assertEqual(last_sizes(given.mixed(exchange)), ())

    def test_known_rows(self):
        figures = Figures(0)
        given = pair(figures, ((1, 0), (0, 0)), ((0, 0), (0, 1)))
        self.assertEqual(row_of_polys(given), (numbers(figures, (0, 1)),))
        self.assertEqual(last_sizes(given), (1,))
        given = pair(figures, ((2, 0), (0, 2)), ((2, 0), (0, 2)))
        self.assertEqual(divisors_of(given), (numbers(figures, (-1, 1)), numbers(figures, (1, -2, 1))))
        self.assertEqual(row_of_polys(given), (numbers(figures, (-1, 1)),) * 2)

    def test_long_numbers(self):
        figures = Figures(0)
        draw = drawer(85)
        roots = [long_number(draw) for _ in range(2)]
        poly = poly_of_roots(figures, roots)
        made = blocks(lying=(1,), polys=(poly_of_roots(figures, roots[:1]), poly))
        left, right = [tuple(tuple(long_number(draw) for _ in range(size)) for _ in range(size)) for size in (4, 5)]
        given = blocks_pair(figures, made).turned(left, right)
        self.assertEqual(row_of_polys(given), made.polys)
        self.assertEqual(last_sizes(given), ())


class OwnTest(unittest.TestCase):

    def test_own_polys(self):
        draw = drawer(86)
        for figures in all_figures():
            for size in range(1, 6):
                given = drawn_table(figures, draw, size, size, draw.choice((1.0, 0.5)))
                made = own_poly(figures, [list(row) for row in given])
                unit = unit_table(figures, size)
                self.assertEqual(made, plain_determinant(figures, [
                    [poly_of_roots(figures, (given[i][j],)) if i == j
                     else tuple(n for n in (figures.negative(given[i][j]),) if n != figures.zero)
                     for j in range(size)] for i in range(size)]))
                self.assertEqual((len(made), made[-1]), (size + 1, figures.one))
                self.assertEqual(poly_at_table(figures, made, given), table_scaled(figures, figures.zero, unit))
                if size <= most_sides(figures):
                    self.judge_row(figures, made, given, unit)

    def judge_row(self, figures, own, given, unit):
        row = row_of_polys(Pair(figures, unit, given))
        made = (figures.one,)
        for poly in row:
            made = poly_times(figures, made, poly)
        self.assertEqual(made, own)
        zero = table_scaled(figures, figures.zero, unit)
        self.assertEqual(poly_at_table(figures, row[-1], given), zero)
        for root in (figures.all_numbers() or numbers(figures, (0, 1, -1, 2))):
            if value_at(figures, row[-1], root) == figures.zero:
                less = poly_over(figures, row[-1], poly_of_roots(figures, (root,)))[0]
                self.assertNotEqual(poly_at_table(figures, less, given), zero)

    def test_last_columns_have_their_poly(self):
        draw = drawer(87)
        for figures in all_figures():
            for degree in range(1, 6):
                poly = tuple(drawn_number(figures, draw) for _ in range(degree)) + (figures.one,)
                self.assertEqual(own_poly(figures, last_column(figures, poly)), poly)

    def test_polys_at_tables(self):
        draw = drawer(88)
        for figures in all_figures():
            for size in range(1, 6):
                given = drawn_table(figures, draw, size, size)
                poly = drawn_poly(figures, draw, draw.choice((0, 3, 11)))
                total = table_scaled(figures, figures.zero, given)
                power = unit_table(figures, size)
                for number in poly:
                    total = table_plus(figures, total, table_scaled(figures, number, power))
                    power = plain_times(figures, power, given)
                self.assertEqual(poly_at_table(figures, list(poly), [list(row) for row in given]), total)
                self.assertEqual(poly_at_table(figures, (), given), table_scaled(figures, figures.zero, given))
                self.assertEqual(poly_at_table(figures, (figures.one,), given), unit_table(figures, size))

    def test_refusals(self):
        for figures in all_figures():
            one, zero = figures.one, figures.zero
            for thing, due in ((None, (0, "rows")), ((), (0, "rows")), (((one,),) * 6, (0, "rows")),
                               (((),), (0, "columns")), ((None,), (0, "columns")), (((one,) * 6,), (0, "columns")),
                               (((one,), (one, one)), (1, "columns")), (((True,),), (0, "number"))):
                self.assertEqual(raised(own_poly, figures, thing), ("BadTable", due))
                self.assertEqual(raised(poly_at_table, figures, (one,), thing), ("BadTable", due))
                self.assertEqual(raised(poly_at_table, figures, (one, zero), thing), ("BadPoly", (1, "last")))
            for rows, columns in ((1, 2), (2, 1), (5, 4)):
                given = ((one,) * columns,) * rows
                self.assertEqual(raised(own_poly, figures, given), ("NotSquare", (rows, columns)))
                self.assertEqual(raised(poly_at_table, figures, (), given), ("NotSquare", (rows, columns)))
                self.assertEqual(raised(poly_at_table, figures, None, given), ("BadPoly", (0, "many")))
            # A wrong number is told ahead of the table not being square.
            self.assertEqual(raised(own_poly, figures, ((one, None),)), ("BadTable", (0, "number")))


class JoinedTest(unittest.TestCase):

    def test_examples_of_the_document(self):
        figures = Figures(0)
        one, two = numbers(figures, (1, 0, 1)), numbers(figures, (2, 0, 1))
        self.assertEqual(joined_row(figures, (one, two)), (numbers(figures, (2, 0, 3, 0, 1)),))
        for figures in all_figures():
            straight, square = [poly_of_roots(figures, (figures.one,) * many) for many in (1, 2)]
            self.assertEqual(joined_row(figures, [straight, list(square)]), (straight, square))
            self.assertEqual(joined_row(figures, [square, straight]), (straight, square))
            self.assertEqual(joined_row(figures, ()), ())
            self.assertEqual(joined_row(figures, [(figures.one,)] * 5), ())
            self.assertEqual(joined_row(figures, [straight] * 5), (straight,) * 5)

    def test_row_of_the_pair(self):
        draw = drawer(89)
        for figures in all_figures():
            for _ in range(20):
                polys = []
                most = most_sides(figures)
                for _ in range(draw.randint(1, 4)):
                    degree = draw.randint(0, min(2, most))
                    most = most - degree
                    polys.append(tuple(drawn_number(figures, draw) for _ in range(degree)) + (figures.one,))
                pairs = [Pair(figures, unit_table(figures, len(poly) - 1), last_column(figures, poly))
                         for poly in polys if len(poly) > 1]
                due = ()
                if pairs:
                    given = pairs[0]
                    for more in pairs[1:]:
                        given = given.beside(more)
                    due = row_of_polys(given)
                for order in itertools.permutations(polys):
                    self.assertEqual(joined_row(figures, list(order)), due)

    def test_two_polys(self):
        draw = drawer(90)
        for figures in all_figures():
            for _ in range(15):
                share = tuple(drawn_number(figures, draw) for _ in range(draw.randint(0, 2))) + (figures.one,)
                one, other = [poly_times(figures, share, tuple(drawn_number(figures, draw) for _ in range(
                    draw.randint(0, 3))) + (figures.one,)) for _ in range(2)]
                common = poly_common(figures, one, other)
                multiple = poly_over(figures, poly_times(figures, one, other), common)[0]
                self.assertEqual(joined_row(figures, (one, other)),
                                 tuple(poly for poly in (common, multiple) if len(poly) > 1))

    def test_degree_eleven(self):
        for figures in all_figures():
            roots = numbers(figures, (1, 1, 1, 2, 2, 3))
            one, other = poly_of_roots(figures, roots), poly_of_roots(figures, roots[:5])
            self.assertEqual(joined_row(figures, (one, other)), (other, one))
            long = (figures.one,) * 12
            self.assertEqual(joined_row(figures, (long, (figures.one,))), (long,))

    def test_refusals(self):
        for figures in all_figures():
            one, zero = figures.one, figures.zero
            straight = (one, one)
            for thing in (None, 3, "ab", {}, [straight] * 6, [None] * 6):
                self.assertEqual(raised(joined_row, figures, thing), ("BadPoly", (0, "many")))
            for thing, due in ((None, (0, "many")), ((one,) * 13, (0, "many")), ((one, one, None), (2, "number")),
                               ((one, zero), (1, "last")), ((), (0, "degree"))):
                self.assertEqual(raised(joined_row, figures, [straight, thing, None]), ("BadPoly", due))
            if figures.prime != 2:
                self.assertEqual(raised(joined_row, figures, [straight, (one, one, figures.whole_number(2))]),
                                 ("BadPoly", (2, "led")))
            self.assertEqual(raised(joined_row, figures, [(one,) * 12, straight]), ("BadPoly", (0, "degree")))
            self.assertEqual(raised(joined_row, figures, [(one,) * 6, (one,) * 6, straight, straight]),
                             ("BadPoly", (0, "degree")))
            # Each poly is looked at ahead of the sum.
            self.assertEqual(raised(joined_row, figures, [(one,) * 12, straight, (zero,)]), ("BadPoly", (0, "last")))
            self.assertIsNone(raised(joined_row, figures, [(one,) * 6, (one,) * 6, straight]))


if __name__ == "__main__":
    unittest.main()
