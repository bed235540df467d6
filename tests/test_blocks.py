"""Promises 2.02, 2.04, 2.09, 2.11: blocks of pairs [2.5] to [2.9]."""

import unittest

from drawnblocks import blocks, degrees, determined, drawn_blocks, drawn_mixed, drawn_turned, first_five, sides
from helpers import PRIMES, all_figures, drawer, drawn_number, drawn_pair, long_number, most_sides, numbers, pair
from helpers import plain_times, raised, table
from sparedproducts.blocks import Blocks, blocks_fault, blocks_of, blocks_pair, lying_pair, mix_of, point_table
from sparedproducts.blocks import rank_at, square_pair, standing_pair
from sparedproducts.figures import Figures
from sparedproducts.pairs import Pair, zero_pair
from sparedproducts.polys import last_column, poly_over, value_at
from sparedproducts.solving import rank_of, unit_table


def mix_at(figures, point):
    zero, one = figures.zero, figures.one
    return ((zero, one), (one, zero)) if point == "last" else ((one, point), (zero, one))


def points_of(figures, low=0, high=5):
    """Whole numbers and "last", in the order of [2.6]."""
    return list(figures.all_numbers()) or [figures.whole_number(many) for many in range(low, high + 1)]


def built(figures, made):
    """The tables of blocks in the order of [2.7], by nothing but the text of [2.5]."""
    rows, columns = sides(made)
    first, second = [[[figures.zero] * columns for _ in range(rows)] for _ in range(2)]
    row = column = 0
    for size in made.lying:
        for place in range(size):
            first[row + place][column + place] = second[row + place][column + place + 1] = figures.one
        row, column = row + size, column + size + 1
    for size in made.standing:
        for place in range(size):
            first[row + place][column + place] = second[row + place + 1][column + place] = figures.one
        row, column = row + size + 1, column + size
    for poly in made.polys:
        size = len(poly) - 1
        for place in range(size):
            first[row + place][column + place] = figures.one
            if place:
                second[row + place][column + place - 1] = figures.one
            second[row + place][column + size - 1] = figures.negative(poly[place])
        if size > 1:
            second[row + size - 1][column + size - 2] = figures.one
        row, column = row + size, column + size
    return Pair(figures, first, second)


class JudgedTest(unittest.TestCase):

    def judge(self, given):
        """All of [2.7] for the blocks of a pair, without the package's own judge, and with it."""
        figures = given.figures
        made = blocks_of(given)
        self.assertEqual(made.mix, mix_of(given))
        self.assertEqual(sides(made), (given.rows, given.columns))
        for sizes in (made.lying, made.standing):
            self.assertIs(type(sizes), tuple)
            self.assertEqual(tuple(sorted(sizes)), sizes)
            self.assertTrue(all(size >= 1 for size in sizes))
        self.assertIs(type(made.polys), tuple)
        for poly in made.polys:
            self.assertIs(type(poly), tuple)
            self.assertGreater(len(poly), 1)
            self.assertEqual(poly[-1], figures.one)
        for one, other in zip(made.polys, made.polys[1:]):
            self.assertEqual(poly_over(figures, other, one)[1], ())
        self.assertEqual((rank_of(figures, made.left), rank_of(figures, made.right)), (given.rows, given.columns))
        mixed = given.mixed(made.mix)
        due = built(figures, made)
        for table_of, end in ((mixed.first, due.first), (mixed.second, due.second)):
            self.assertEqual(plain_times(figures, plain_times(figures, made.left, table_of), made.right), end)
        self.assertIsNone(blocks_fault(given, made))
        self.assertEqual(blocks_pair(figures, made), due)
        greatest = max(rank_at(given, point) for point in points_of(figures) + ["last"])
        self.assertEqual(greatest, sum(made.lying) + sum(made.standing) + sum(degrees(made.polys)))
        return made


class SingleTest(unittest.TestCase):

    def test_lying_and_standing(self):
        for figures in all_figures():
            most = most_sides(figures) - 1
            for size in range(1, most + 1):
                made = lying_pair(figures, size)
                self.assertEqual((made.rows, made.columns), (size, size + 1))
                for i in range(size):
                    for j in range(size + 1):
                        self.assertEqual(made.first[i][j], figures.one if i == j else figures.zero)
                        self.assertEqual(made.second[i][j], figures.one if i + 1 == j else figures.zero)
                self.assertEqual(standing_pair(figures, size), made.flipped())
                self.assertEqual(first_five(blocks_of(made)), (0, 0, (size,), (), ()))
                self.assertEqual(first_five(blocks_of(made.flipped())), (0, 0, (), (size,), ()))
            for thing in (0, -1, most + 1, 5, 6, True, None, "1", 1.0, (1,), 10 ** 20):
                self.assertEqual(raised(lying_pair, figures, thing), ("BadSize", ()))
                self.assertEqual(raised(standing_pair, figures, thing), ("BadSize", ()))

    def test_squares(self):
        for figures in all_figures():
            high = most_sides(figures)
            for degree in range(1, high + 1):
                poly = numbers(figures, list(range(1, degree + 1)) + [1])
                made = square_pair(figures, list(poly))
                self.assertEqual(made.first, unit_table(figures, degree))
                self.assertEqual(made.second, last_column(figures, poly))
                self.assertEqual(first_five(blocks_of(made)), (0, 0, (), (), (poly,)))
            one = figures.one
            for thing, due in (((), (0, "degree")), ((one,), (0, "degree")), ((one,) * (high + 2), (0, "degree")),
                               ((one,) * 13, (0, "many")), (None, (0, "many")), ((one, True), (1, "number")),
                               ((one, figures.zero), (1, "last"))):
                self.assertEqual(raised(square_pair, figures, thing), ("BadPoly", due))
        self.assertEqual(raised(square_pair, Figures(3), (1, 2)), ("BadPoly", (1, "led")))
        self.assertEqual(raised(square_pair, Figures(0), ((1, 1), (2, 1))), ("BadPoly", (1, "led")))
        # By 2 and 3 the degree is at most the prime; it is told ahead of the last number.
        self.assertEqual(raised(square_pair, Figures(2), (1, 1, 1, 1)), ("BadPoly", (0, "degree")))
        self.assertEqual(raised(square_pair, Figures(3), (1, 1, 1, 1, 2)), ("BadPoly", (0, "degree")))
        self.assertEqual(square_pair(Figures(3), (1, 1, 1, 1)).rows, 3)


class MixTest(unittest.TestCase):

    def test_tables_and_ranks_of_points(self):
        draw = drawer(51)
        for figures in all_figures():
            for _ in range(10):
                given = drawn_pair(figures, draw, draw.randint(1, most_sides(figures)),
                                   draw.randint(1, most_sides(figures)), draw.random())
                for point in points_of(figures, -3, 7) + ["last"]:
                    made = point_table(given, point)
                    self.assertEqual(made, given.mixed(mix_at(figures, point)).first)
                    self.assertEqual(rank_at(given, point), rank_of(figures, made))

    def test_first_point_of_the_greatest_rank(self):
        draw = drawer(52)
        for figures in all_figures():
            for _ in range(25):
                given = drawn_pair(figures, draw, draw.randint(1, most_sides(figures)),
                                   draw.randint(1, most_sides(figures)), draw.random())
                points = points_of(figures) + ["last"]
                ranks = [rank_at(given, point) for point in points]
                self.assertEqual(mix_of(given), mix_at(figures, points[ranks.index(max(ranks))]))

    def test_the_last_point_of_fractions(self):
        # The roots 0 to 4 of the poly are the points 0, -1, .. -4; turned about they are 0 to 4.
        figures = Figures(0)
        given = pair(figures, [[(i if i == j else 0) for j in range(5)] for i in range(5)],
                     [[(-1 if i == j else 0) for j in range(5)] for i in range(5)])
        self.assertEqual([rank_at(given, figures.whole_number(k)) for k in range(6)], [4, 4, 4, 4, 4, 5])
        self.assertEqual(mix_of(given), mix_at(figures, (5, 1)))
        self.assertEqual(degrees(blocks_of(given).polys), [5])

    def test_last_alone(self):
        for prime in (2, 3, 5):
            figures = Figures(prime)
            given = pair(figures, [[(-i if i == j else 0) for j in range(prime)] for i in range(prime)],
                         [[(1 if i == j else 0) for j in range(prime)] for i in range(prime)])
            self.assertTrue(all(rank_at(given, point) == prime - 1 for point in range(prime)))
            self.assertEqual(mix_of(given), ((0, 1), (1, 0)))
            made = JudgedTest().judge(given)
            # All numbers are roots: t ** p - t.
            self.assertEqual(made.polys, ((0, prime - 1) + (0,) * (prime - 2) + (1,),))
            turned = drawn_turned(given, drawer(prime))
            self.assertEqual(determined(JudgedTest().judge(turned)), determined(made))


class BlocksTest(JudgedTest):

    def test_drawn_pairs_of_every_size(self):
        draw = drawer(53)
        for figures in all_figures():
            for rows in range(1, most_sides(figures) + 1):
                for columns in range(1, most_sides(figures) + 1):
                    for filled in (1.0, 0.6, 0.3):
                        self.judge(drawn_pair(figures, draw, rows, columns, filled))

    def test_pairs_of_zeros(self):
        for figures in all_figures():
            for rows in range(1, most_sides(figures) + 1):
                for columns in range(1, most_sides(figures) + 1):
                    made = self.judge(zero_pair(figures, rows, columns))
                    self.assertEqual(first_five(made), (rows, columns, (), (), ()))
                    self.assertEqual(made.mix, mix_at(figures, figures.zero))

    def test_first_table_without_inverse(self):
        draw = drawer(54)
        for figures in all_figures():
            most = most_sides(figures)
            for _ in range(8):
                given = drawn_pair(figures, draw, most, most)
                first = ((figures.zero,) * most,) + given.first[1:]
                self.judge(Pair(figures, first, given.second))
                self.judge(Pair(figures, zero_pair(figures, most, most).first, given.second))
                self.judge(Pair(figures, given.first, zero_pair(figures, most, most).first))

    def test_examples_of_the_document(self):
        figures = Figures(0)
        given = pair(figures, ((1, 0), (0, 0)), ((0, 0), (0, 1)))
        self.assertEqual(rank_at(given, (0, 1)), 1)
        self.assertEqual(rank_at(given, (1, 1)), 2)
        made = self.judge(given)
        self.assertEqual(made.mix, table(figures, ((1, 1), (0, 1))))
        self.assertEqual(given.mixed(made.mix), pair(figures, ((1, 0), (0, 1)), ((0, 0), (0, 1))))
        self.assertEqual(made.polys, (numbers(figures, (0, -1, 1)),))
        made = self.judge(pair(figures, ((1, 0),), ((0, 1),)))
        self.assertEqual(first_five(made), (0, 0, (1,), (), ()))
        for figures in all_figures():
            made = self.judge(pair(figures, ((1, 0), (0, -1)), ((0, 1), (1, 0))))
            self.assertEqual(made.polys, (numbers(figures, (1, 0, 1)),))

    def test_drawn_blocks_come_back(self):
        draw = drawer(55)
        for figures in all_figures():
            for _ in range(40):
                due = drawn_blocks(figures, draw)
                given = blocks_pair(figures, due)
                self.assertEqual(given, built(figures, due))
                made = self.judge(given)
                self.assertEqual(determined(made), first_five(due) + (mix_at(figures, figures.zero),))
                turned = drawn_turned(given, draw)
                self.assertEqual(determined(self.judge(turned)), determined(made))

    def test_mixes_keep_sizes_and_degrees(self):
        draw = drawer(56)
        for figures in all_figures():
            for _ in range(25):
                due = drawn_blocks(figures, draw)
                made = self.judge(drawn_turned(drawn_mixed(blocks_pair(figures, due), draw), draw))
                self.assertEqual(first_five(made)[:4], first_five(due)[:4])
                self.assertEqual(degrees(made.polys), degrees(due.polys))

    def test_flipped_ones_change_places(self):
        draw = drawer(57)
        for figures in all_figures():
            for _ in range(25):
                given = drawn_turned(drawn_mixed(blocks_pair(figures, drawn_blocks(figures, draw)), draw), draw)
                one, other = blocks_of(given), self.judge(given.flipped())
                self.assertEqual((other.idle_rows, other.idle_columns, other.lying, other.standing),
                                 (one.idle_columns, one.idle_rows, one.standing, one.lying))
                self.assertEqual((other.polys, other.mix), (one.polys, one.mix))

    def test_rows_and_columns_of_zeros_are_idle_ones_more(self):
        draw = drawer(58)
        for figures in all_figures():
            if figures.prime == 2:
                continue
            for _ in range(10):
                most = most_sides(figures) - 1
                given = drawn_pair(figures, draw, draw.randint(1, most), draw.randint(1, most), 0.7)
                one = blocks_of(given)
                zero = (figures.zero,)
                wide = Pair(figures, [row + zero for row in given.first], [row + zero for row in given.second])
                other = self.judge(wide)
                self.assertEqual(determined(other), (one.idle_rows, one.idle_columns + 1) + determined(one)[2:])
                empty = (zero * given.columns,)
                other = self.judge(Pair(figures, empty + given.first, empty + given.second))
                self.assertEqual(determined(other), (one.idle_rows + 1, one.idle_columns) + determined(one)[2:])

    def test_several_of_a_kind(self):
        for figures in all_figures():
            kinds = [blocks(lying=(1, 1)), blocks(standing=(1, 1)), blocks(lying=(1,), standing=(1,)),
                     blocks(1, 1, (1,), (), ()), blocks(2, 2), blocks(polys=(numbers(figures, (1, 1)),) * 2),
                     blocks(polys=(numbers(figures, (0, 1)), numbers(figures, (0, 0, 1)))),
                     blocks(1, 0, (), (1,), (numbers(figures, (-1, 1)),)), blocks(lying=(1, 2)),
                     blocks(1, 1, (1,), (1,), (numbers(figures, (2, 1)),)), blocks(lying=(4,)), blocks(standing=(4,)),
                     blocks(polys=(numbers(figures, (3, 1)),) * 5), blocks(0, 1, (1,), (1,), ()),
                     blocks(lying=(2,), polys=(numbers(figures, (1, 0, 1)),)), blocks(standing=(1, 2))]
            for due in kinds:
                if max(sides(due)) <= most_sides(figures):
                    given = drawn_turned(blocks_pair(figures, due), drawer(59))
                    self.assertEqual(first_five(self.judge(given)), first_five(due))

    def test_long_numbers(self):
        figures = Figures(0)
        draw = drawer(60)
        for rows, columns, lying, standing, squares in ((3, 3, (), (), [3]), (2, 3, (2,), (), []),
                                                        (3, 2, (), (2,), []), (2, 4, (1, 1), (), [])):
            given = Pair(figures, *[[[long_number(draw) for _ in range(columns)] for _ in range(rows)]
                                    for _ in range(2)])
            made = self.judge(given)
            self.assertEqual((made.lying, made.standing, degrees(made.polys)), (lying, standing, squares))

    def test_falls(self):
        draw = drawer(61)
        for figures in all_figures():
            for _ in range(25):
                given = drawn_turned(drawn_mixed(blocks_pair(figures, drawn_blocks(figures, draw)), draw), draw)
                made = blocks_of(given)
                greatest = sum(made.lying) + sum(made.standing) + sum(degrees(made.polys))
                for point in points_of(figures, -6, 6) + ["last"]:
                    own = self.own_number(figures, made.mix, point)
                    due = 0 if own is None else sum(value_at(figures, poly, own) == figures.zero
                                                    for poly in made.polys)
                    self.assertEqual(greatest - rank_at(given, point), due)

    def own_number(self, figures, mix, point):
        if mix == mix_at(figures, "last"):
            return None if point == "last" else figures.negative(point)
        if point == "last":
            return figures.zero
        away = figures.minus(point, mix[0][1])
        return None if away == figures.zero else figures.over(figures.negative(figures.one), away)

    def test_calls_leave_the_pair_and_say_the_same_again(self):
        draw = drawer(62)
        for figures in all_figures():
            given = drawn_pair(figures, draw, most_sides(figures), most_sides(figures))
            copy = Pair(figures, given.first, given.second)
            one, other = blocks_of(given), blocks_of(copy)
            self.assertEqual(given, copy)
            self.assertEqual(determined(one) + (one.left, one.right), determined(other) + (other.left, other.right))


class BlocksPairTest(unittest.TestCase):

    def test_lists_and_any_other_attributes(self):
        figures = Figures(5)
        due = built(figures, blocks(1, 0, (1,), (), ((1, 1),)))
        self.assertEqual(blocks_pair(figures, blocks(1, 0, [1], [], [[1, 1]], "x", 3, ())), due)

    def test_sizes(self):
        for figures in all_figures():
            poly = (figures.one,) * 2
            for due in (blocks(), blocks(1, 0), blocks(0, 1), blocks(6, 1), blocks(1, 6), blocks(lying=(5,)),
                        blocks(standing=(5,)), blocks(lying=(1, 1, 1)), blocks(polys=(poly,) * 6),
                        blocks(polys=((figures.one,) * 7,)), blocks(polys=((figures.one,) * 14,)),
                        blocks(10 ** 20, 1), blocks(0, 0, (1, 2), (2,), ()), blocks(3, 3, (1,), (1,), ())):
                self.assertEqual(raised(blocks_pair, figures, due), ("BadPair", ("size",)))
            due = None if most_sides(figures) == 5 else ("BadPair", ("wide",))
            for made in (blocks(5, 1), blocks(1, 5), blocks(lying=(4,)), blocks(standing=(4,)),
                         blocks(polys=(poly,) * 5)):
                self.assertEqual(raised(blocks_pair, figures, made), due)
        self.assertIsNone(raised(blocks_pair, Figures(2), blocks(2, 2)))
        self.assertEqual(raised(blocks_pair, Figures(2), blocks(lying=(1,), idle_rows=1, idle_columns=1)),
                         ("BadPair", ("wide",)))
        self.assertEqual(raised(blocks_pair, Figures(2), blocks(3, 6)), ("BadPair", ("size",)))


class FaultTest(unittest.TestCase):

    def setUp(self):
        self.given = {}
        draw = drawer(63)
        for figures in all_figures():
            if figures.prime != 2:
                due = blocks(1, 0, (1,), (), (numbers(figures, (1, 1)),))
                self.given[figures.prime] = drawn_turned(blocks_pair(figures, due), draw)

    def changed(self, made, **more):
        names = ("idle_rows", "idle_columns", "lying", "standing", "polys", "left", "right", "mix")
        return Blocks(*[more.get(name, getattr(made, name)) for name in names])

    def each(self):
        for given in self.given.values():
            yield given.figures, given, blocks_of(given)

    def test_right_ones_as_lists(self):
        for _, given, made in self.each():
            self.assertIsNone(blocks_fault(given, made))
            lists = {name: [list(row) for row in getattr(made, name)] for name in ("left", "right", "mix", "polys")}
            self.assertIsNone(blocks_fault(given, self.changed(made, lying=[1], standing=[], **lists)))

    def test_other_turnings_are_right_too(self):
        for figures, given, made in self.each():
            # A pair of blocks is led to itself by a number on one side and its inverse on the other.
            if figures.prime != 3:
                two = figures.whole_number(2)
                left = [[figures.times(two, n) for n in row] for row in made.left]
                right = [[figures.over(n, two) for n in row] for row in made.right]
                self.assertIsNone(blocks_fault(given, self.changed(made, left=left, right=right)))

    def test_blocks(self):
        for _, given, made in self.each():
            for name in ("idle_rows", "idle_columns"):
                for thing in (-1, True, None, "1", 1.0, (1,)):
                    self.assertEqual(blocks_fault(given, self.changed(made, **{name: thing})), "blocks")
            for name in ("lying", "standing"):
                for thing in (None, 1, "1", {}, (0,), (True,), ("1",), (2, 1), (1, None), (1, 1, 0), (-1,), ((1,),)):
                    self.assertEqual(blocks_fault(given, self.changed(made, **{name: thing})), "blocks")
            self.assertEqual(blocks_fault(given, Blocks(None, None, None, None, None, None, None, None)), "blocks")
            self.assertEqual(blocks_fault(given, Blocks(0, 0, (), (0,), None, None, None, None)), "blocks")

    def test_polys(self):
        for figures, given, made in self.each():
            one, two = figures.one, figures.whole_number(2)
            for thing in (None, 1, "ab", {}, (one,), ((),), ((one,),), ("ab",), (None,), ((one, two),), ((two, two),),
                          ((one, True),), ((None, one),), ((one, one, figures.zero),), ([one, one], None),
                          ((one, one), (one,)), (numbers(figures, (1, 1)), numbers(figures, (2, 1))),
                          (numbers(figures, (1, 2, 1)), numbers(figures, (1, 1)))):
                self.assertEqual(blocks_fault(given, self.changed(made, polys=thing)), "polys")
            self.assertEqual(blocks_fault(given, Blocks(9, 0, (), (), None, None, None, None)), "polys")

    def test_size(self):
        for figures, given, made in self.each():
            long = (figures.zero,) * 40 + (figures.one,)
            for more in ({"idle_rows": 0}, {"idle_rows": 10 ** 30}, {"idle_columns": 1}, {"lying": ()},
                         {"lying": (1, 10 ** 20)}, {"standing": [1]}, {"polys": ()}, {"polys": (long, long)}):
                self.assertEqual(blocks_fault(given, self.changed(made, mix=None, **more)), "size")

    def test_mix(self):
        for figures, given, made in self.each():
            zero, one = figures.zero, figures.one
            for thing in (None, 1, "ab", (), made.mix[:1], made.mix + made.mix, ((one, zero), (one,)),
                          ((one, zero), (zero, True)), ((one, one), (zero, one)), ((zero, one), (one, zero)),
                          ((one, zero), (zero, figures.whole_number(2))), ((None,) * 2,) * 2):
                self.assertEqual(blocks_fault(given, self.changed(made, mix=thing, left=None)), "mix")

    def test_tables(self):
        for figures, given, made in self.each():
            one = figures.one
            for name, size in (("left", given.rows), ("right", given.columns)):
                good = getattr(made, name)
                for thing in (None, 1, "abc", (), good[1:], good + good[:1], [row[1:] for row in good],
                              good[1:] + ((True,) * size,), good[1:] + (None,), [(None,) * size] * size):
                    self.assertEqual(blocks_fault(given, self.changed(made, **{name: thing})), name)
                flat = ((one,) * size,) * size
                self.assertEqual(blocks_fault(given, self.changed(made, **{name: flat})), "once")
            self.assertEqual(blocks_fault(given, self.changed(made, left=None, right=None)), "left")
            flat = ((one,) * given.rows,) * given.rows
            self.assertEqual(blocks_fault(given, self.changed(made, left=flat, right=None)), "right")

    def test_cell(self):
        for figures, given, made in self.each():
            exchanged = made.left[1:] + made.left[:1]
            self.assertEqual(blocks_fault(given, self.changed(made, left=exchanged)), "cell")
            # Other blocks of the same size are not led to.
            other = numbers(figures, (0, 1))
            self.assertEqual(blocks_fault(given, self.changed(made, polys=(other,))), "cell")
            self.assertEqual(blocks_fault(given, self.changed(made, idle_rows=0, lying=(), standing=(1,), idle_columns=1,
                                                              polys=made.polys)), "cell")

    def test_every_prime(self):
        draw = drawer(64)
        for prime in PRIMES:
            figures = Figures(prime)
            for _ in range(10):
                given = drawn_pair(figures, draw, 2, 2)
                made = blocks_of(given)
                self.assertIsNone(blocks_fault(given, made))
                left = (tuple(drawn_number(figures, draw) for _ in range(2)), made.left[1])
                due = built(figures, made)
                mixed = given.mixed(made.mix)
                if rank_of(figures, left) < 2:
                    word = "once"
                elif all(plain_times(figures, plain_times(figures, left, one), made.right) == other
                         for one, other in ((mixed.first, due.first), (mixed.second, due.second))):
                    word = None
                else:
                    word = "cell"
                self.assertEqual(blocks_fault(given, self.changed(made, left=left)), word)


if __name__ == "__main__":
    unittest.main()
