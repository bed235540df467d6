"""Promises 3.08, 3.09: falling points [4.6], separate programs [4.10], [4.11]."""

import unittest

from drawnblocks import blocks, degrees, drawn_blocks, drawn_mixed, drawn_turned
from drawnprograms import tables_of
from helpers import all_figures, drawer, drawn_number, drawn_pair, fraction, long_number, most_sides, numbers, pair
from helpers import raised
from secondway import all_points, plain_common_rank
from sparedproducts.blocks import blocks_of, blocks_pair, lying_pair, rank_at, square_pair
from sparedproducts.bounds import high_bound
from sparedproducts.counts import fewest_of
from sparedproducts.figures import Figures
from sparedproducts.pairs import Pair, zero_pair
from sparedproducts.polys import poly_of_roots, poly_times
from sparedproducts.programs import Program, is_right
from sparedproducts.ranks import three_ranks
from sparedproducts.separate import falling_points, separate_least, separate_points, separate_program


def drawn_kinds(seed, many):
    draw = drawer(seed)
    for figures in all_figures():
        for _ in range(many):
            yield figures, drawn_turned(drawn_mixed(blocks_pair(figures, drawn_blocks(figures, draw)), draw), draw)
        most = most_sides(figures)
        for _ in range(many):
            yield figures, drawn_pair(figures, draw, draw.randint(1, most), draw.randint(1, most), 0.7)


def no_points(figures):
    things = [True, None, "1", "first", 1.0, (), ("last",), -1]
    return things + ([figures.prime, (1, 1)] if figures.prime else [1, (2, 2), [1, 1]])


def place_of(figures, point):
    """What puts points in their order."""
    if point == "last":
        return (1, 0)
    return (0, point if figures.prime else fraction(point))


class FallingTest(unittest.TestCase):

    def test_every_fall_is_the_loss_of_rank(self):
        for figures, given in drawn_kinds(151, 20):
            falls = falling_points(given)
            self.assertIs(type(falls), tuple)
            told = dict(falls)
            self.assertEqual(len(told), len(falls))
            common = plain_common_rank(given)
            for point in tuple(told) + all_points(figures):
                self.assertEqual(common - rank_at(given, point), told.get(point, 0))
            self.assertTrue(all(type(entry) is tuple and entry[1] >= 1 for entry in falls))
            self.assertEqual([point for point, _ in falls], sorted(told, key=lambda point: place_of(figures, point)))

    def test_the_sum_of_all_falls(self):
        for _, given in drawn_kinds(152, 20):
            made = fewest_of(given)
            total = sum(fall for _, fall in falling_points(given))
            together = sum(degrees(made.blocks.polys))
            self.assertLessEqual(total, together)
            self.assertEqual(total == together, made.extras == ())

    def test_built_roots_are_led_by_the_mix(self):
        # A square pair of t - r loses rank where 1 + s r is 0, s being the point.
        draw = drawer(153)
        for figures in all_figures():
            for _ in range(10):
                root = drawn_number(figures, draw)
                poly = poly_of_roots(figures, [root])
                due = "last" if root == figures.zero else figures.over(figures.negative(figures.one), root)
                self.assertEqual(falling_points(drawn_turned(square_pair(figures, poly), draw)), ((due, 1),))

    def test_several_roots_that_several_polys_have(self):
        figures = Figures(0)
        one, two = numbers(figures, (0, 1)), numbers(figures, (0, -2, 1))
        given = drawn_turned(blocks_pair(figures, blocks(polys=(one, one, two))), drawer(154))
        self.assertEqual(falling_points(given), (((-1, 2), 1), ("last", 3)))
        figures = Figures(7)
        given = blocks_pair(figures, blocks(polys=((1, 1), (1, 2, 1), (1, 2, 1))))
        self.assertEqual(falling_points(given), ((1, 3),))

    def test_rootless_factors_make_nothing_fall(self):
        for prime, poly in ((2, (1, 1, 1)), (3, (1, 0, 1)), (7, (1, 0, 1)), (11, (1, 0, 1)), (0, (-2, 0, 1))):
            figures = Figures(prime)
            poly = numbers(figures, poly)
            self.assertEqual(falling_points(drawn_turned(square_pair(figures, poly), drawer(155))), ())
            if prime != 2:
                longer = poly_times(figures, poly, numbers(figures, (1, 1)))
                self.assertEqual(falling_points(square_pair(figures, longer)), ((figures.one, 1),))

    def test_like_roots_fall_once(self):
        for figures in all_figures():
            for size in range(1, most_sides(figures) + 1):
                power = (figures.zero,) * size + (figures.one,)
                self.assertEqual(falling_points(square_pair(figures, power)), (("last", 1),))

    def test_blocks_without_polys(self):
        for figures in all_figures():
            self.assertEqual(falling_points(zero_pair(figures, 2, 1)), ())
            for size in range(1, most_sides(figures)):
                self.assertEqual(falling_points(lying_pair(figures, size)), ())
                self.assertEqual(falling_points(lying_pair(figures, size).flipped()), ())

    def test_greatest_rank_at_last_alone(self):
        for prime in (2, 3, 5):
            figures = Figures(prime)
            given = pair(figures, [[(-i if i == j else 0) for j in range(prime)] for i in range(prime)],
                         [[(1 if i == j else 0) for j in range(prime)] for i in range(prime)])
            self.assertEqual(falling_points(drawn_turned(given, drawer(156))), tuple((k, 1) for k in range(prime)))

    def test_all_points_but_one_fall(self):
        figures = Figures(3)
        given = pair(figures, ((1, 0, 0), (0, 1, 0), (0, 0, 1)), ((0, 0, 0), (0, 1, 0), (0, 0, 2)))
        self.assertEqual(falling_points(given), ((1, 1), (2, 1), ("last", 1)))

    def test_long_numbers(self):
        figures = Figures(0)
        draw = drawer(157)
        roots = [long_number(draw) for _ in range(4)]
        given = square_pair(figures, poly_of_roots(figures, roots)).beside(
            Pair(figures, (((1, 1),),), (((0, 1),),)))
        left = [[long_number(draw, 8) for _ in range(5)] for _ in range(5)]
        right = [[long_number(draw, 8) for _ in range(5)] for _ in range(5)]
        due = sorted([figures.over((-1, 1), root) for root in roots], key=fraction)
        self.assertEqual(falling_points(given.turned(left, right)), tuple((point, 1) for point in due) + (("last", 1),))

    def test_example(self):
        figures = Figures(0)
        given = pair(figures, ((1, 0, 0), (0, 1, 0), (0, 0, 1)), ((1, 0, 0), (0, 0, -1), (0, 1, 2)))
        self.assertEqual(falling_points(given), (((-1, 1), 2),))
        self.assertEqual(separate_points(given), ((-1, 1), (0, 1)))
        self.assertEqual(separate_least(given), 4)
        self.assertEqual(len(separate_program(given, (-1, 1), (0, 1))), 4)
        self.assertEqual(rank_at(given, (-1, 1)), 1)
        self.assertEqual(three_ranks(given), (3, 3, 3))


class PointsTest(unittest.TestCase):

    def due_points(self, given):
        """The first two points by the words of [4.11], the falls being losses of rank."""
        figures = given.figures
        falls = falling_points(given)
        walked = [point for many in (5, 4, 3, 2, 1) for point, fall in falls if fall == many]
        first = list(figures.all_numbers()) + ["last"] if figures.prime else [(many, 1) for many in range(8)]
        common = plain_common_rank(given)
        return tuple((walked + [point for point in first if rank_at(given, point) == common])[:2])

    def test_drawn_pairs(self):
        for figures, given in drawn_kinds(158, 20):
            points = separate_points(given)
            self.assertEqual(points, self.due_points(given))
            self.assertIs(type(points), tuple)
            least = separate_least(given)
            self.assertEqual(least, sum(rank_at(given, point) for point in points))
            self.assertGreaterEqual(least, fewest_of(given).number)
            ranks = sorted(rank_at(given, point) for point in set(points + all_points(figures)))
            self.assertEqual(least, ranks[0] + ranks[1])

    def test_ties_in_their_order(self):
        figures = Figures(7)
        given = pair(figures, ((1, 0, 0), (0, 1, 0), (0, 0, 1)), ((0, 0, 0), (0, 6, 0), (0, 0, 3)))
        self.assertEqual(falling_points(given), ((1, 1), (2, 1), ("last", 1)))
        self.assertEqual(separate_points(given), (1, 2))
        # "last" comes first where it falls more.
        given = blocks_pair(figures, blocks(polys=((0, 1), (0, 6, 1))))
        self.assertEqual(falling_points(given), ((6, 1), ("last", 2)))
        self.assertEqual(separate_points(given), ("last", 6))

    def test_nothing_or_one_point_falls(self):
        for figures in all_figures():
            zero, one = figures.zero, figures.one
            self.assertEqual(separate_points(lying_pair(figures, 1)), (zero, one))
            self.assertEqual(separate_least(lying_pair(figures, 1)), 2)
            self.assertEqual(separate_points(zero_pair(figures, 1, 1)), (zero, one))
            self.assertEqual(separate_least(zero_pair(figures, 1, 1)), 0)
            # The first table alone falls at "last", the second one alone at 0.
            self.assertEqual(separate_points(Pair(figures, ((one,),), ((zero,),))), ("last", zero))
            self.assertEqual(separate_points(Pair(figures, ((zero,),), ((one,),))), (zero, one))
            # Both alike fall at -1.
            minus = figures.negative(one)
            due = (minus, zero)
            self.assertEqual(separate_points(Pair(figures, ((one,),), ((one,),))), due)
        figures = Figures(2)
        self.assertEqual(separate_points(Pair(figures, ((1,),), ((1,),))), (1, 0))


class ProgramTest(unittest.TestCase):

    def judge(self, given, point, other):
        figures = given.figures
        made = separate_program(given, point, other)
        self.assertIsInstance(made, Program)
        self.assertTrue(is_right(given, made))
        self.assertEqual(tables_of(figures, given.rows, given.columns, made.products), [given.first, given.second])
        many = rank_at(given, point)
        self.assertEqual(len(made), many + rank_at(given, other))
        for at, (_, _, first, second) in enumerate(made):
            silent = other if at < many else point
            couple = (figures.zero, figures.one) if silent == "last" else (figures.one, silent)
            total = figures.plus(figures.times(first, couple[0]), figures.times(second, couple[1]))
            self.assertEqual(total, figures.zero)
            self.assertNotEqual((first, second), (figures.zero, figures.zero))
        return made

    def test_any_points(self):
        draw = drawer(159)
        for figures, given in drawn_kinds(160, 8):
            points = list(dict.fromkeys([point for point, _ in falling_points(given)] + list(all_points(figures))))
            for _ in range(4):
                self.judge(given, *draw.sample(points, 2))
            point, other = separate_points(given)
            self.assertEqual(len(self.judge(given, point, other)), separate_least(given))
            self.judge(given, other, point)

    def test_all_points_by_small_primes(self):
        draw = drawer(161)
        for figures in all_figures():
            if figures.prime in (2, 3, 5):
                given = drawn_pair(figures, draw, 2, 2)
                for point in all_points(figures):
                    for other in all_points(figures):
                        if point != other:
                            self.judge(given, point, other)

    def test_answers_apart(self):
        for figures, given in drawn_kinds(162, 6):
            made = self.judge(given, figures.zero, "last")
            self.assertEqual(len(made), high_bound(given))
            self.assertTrue(all(c == figures.zero or d == figures.zero for _, _, c, d in made))
            self.assertEqual(len(self.judge(given, "last", figures.zero)), high_bound(given))

    def test_zeros(self):
        for figures in all_figures():
            self.assertEqual(len(self.judge(zero_pair(figures, 2, 1), figures.one, "last")), 0)

    def test_first_bad_point(self):
        for figures in all_figures():
            given = zero_pair(figures, 1, 2)
            for thing in no_points(figures):
                for point in (figures.zero, "last", None):
                    self.assertEqual(raised(separate_program, given, thing, point), ("BadPoints", (0,)))
                for point in (figures.zero, "last"):
                    self.assertEqual(raised(separate_program, given, point, thing), ("BadPoints", (1,)))
            for point in all_points(figures):
                self.assertEqual(raised(separate_program, given, point, point), ("BadPoints", (1,)))

    def test_nothing_is_changed_and_all_is_said_again(self):
        for _, given in drawn_kinds(163, 3):
            copy = Pair(given.figures, given.first, given.second)
            points = separate_points(given)
            self.assertEqual(separate_program(given, *points), separate_program(copy, *points))
            self.assertEqual((falling_points(given), separate_points(given)), (falling_points(copy), points))
            self.assertEqual(given, copy)
            self.assertEqual(blocks_of(given).mix, blocks_of(copy).mix)


if __name__ == "__main__":
    unittest.main()
