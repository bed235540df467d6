"""Promises 2.03, 2.12 and 2.04: pairs turned into one another [2.7], [2.9], [2.11]."""

import unittest

from drawnblocks import blocks, determined, drawn_blocks, drawn_mixed, drawn_turned
from helpers import all_figures, drawer, drawn_invertible, drawn_pair, long_number, most_sides, numbers, raised
from sparedproducts.blocks import blocks_of, blocks_pair
from sparedproducts.figures import Figures
from sparedproducts.pairs import Pair, zero_pair
from sparedproducts.solving import unit_table
from sparedproducts.turnings import Apart, same_by_turning, turning_fault


def due_word(one, other):
    """The first word of [2.11] in which two pairs differ, read off their blocks."""
    if (one.rows, one.columns) != (other.rows, other.columns):
        return "size"
    left, right = blocks_of(one), blocks_of(other)
    for word, names in (("idle", ("idle_rows", "idle_columns")), ("lying", ("lying",)), ("standing", ("standing",)),
                        ("mix", ("mix",)), ("polys", ("polys",))):
        if any(getattr(left, name) != getattr(right, name) for name in names):
            return word
    return None


class SameTest(unittest.TestCase):

    def judge(self, one, other):
        made = same_by_turning(one, other)
        word = due_word(one, other)
        if word is not None:
            self.assertIsInstance(made, Apart)
            self.assertEqual(made.what, word)
            return word
        self.assertIs(type(made), tuple)
        left, right = made
        self.assertTrue(all(type(row) is tuple for row in left + right))
        self.assertEqual(one.turned(left, right), other)
        self.assertIsNone(turning_fault(one, other, left, right))
        return None

    def test_turned_ones(self):
        draw = drawer(71)
        for figures in all_figures():
            for _ in range(20):
                given = drawn_mixed(blocks_pair(figures, drawn_blocks(figures, draw)), draw)
                other = drawn_turned(given, draw)
                self.assertIsNone(self.judge(given, other))
                self.assertIsNone(self.judge(other, given))
                self.assertIsNone(self.judge(given, given))

    def test_drawn_ones(self):
        draw = drawer(72)
        for figures in all_figures():
            most = most_sides(figures)
            given = [drawn_pair(figures, draw, draw.randint(1, most), draw.randint(1, 2), 0.4) for _ in range(9)]
            for one in given:
                for other in given:
                    self.judge(one, other)

    def test_all_pairs_of_two_rows_by_two(self):
        # All tables that turn are tried: exactly if one fits, a turning is told.
        figures = Figures(2)
        cells = [((a, b), (c, d)) for a in (0, 1) for b in (0, 1) for c in (0, 1) for d in (0, 1)]
        turnings = [made for made in cells if (made[0][0] * made[1][1] + made[0][1] * made[1][0]) % 2]
        pairs = [Pair(figures, first, second) for first in cells for second in cells]
        for one in pairs[::7]:
            reached = [one.turned(left, right) for left in turnings for right in turnings]
            for other in pairs[::3]:
                self.assertEqual(self.judge(one, other) is None, other in reached)

    def test_each_word(self):
        draw = drawer(73)
        for figures in all_figures():
            if most_sides(figures) < 5:
                continue
            f, g = numbers(figures, (1, 1)), numbers(figures, (2, 1))
            root = (numbers(figures, (0, 1)),)
            for one, other, word in (
                    (blocks(1, 1), blocks(1, 2), "size"), (blocks(2, 1), blocks(1, 1), "size"),
                    (blocks(1, 1, (), (), (f,)), blocks(0, 0, (), (), (f, f)), "idle"),
                    (blocks(1, 1), blocks(0, 0, (), (), (f,)), "idle"),
                    (blocks(1, 1, (1,)), blocks(0, 0, (1,), (), (f,)), "idle"),
                    (blocks(lying=(1, 2)), blocks(lying=(1, 2)), None),
                    (blocks(lying=(1,), polys=(f,)), blocks(lying=(2,)), "lying"),
                    (blocks(lying=(1,), standing=(1,)), blocks(polys=(f, f, f)), "lying"),
                    (blocks(standing=(1,), polys=(f,)), blocks(standing=(2,)), "standing"),
                    (blocks(polys=(f,)), blocks(polys=(g,)), "polys"),
                    (blocks(polys=(f, f)), blocks(polys=(numbers(figures, (1, 2, 1)),)), "polys")):
                left, right = [drawn_turned(blocks_pair(figures, made), draw) for made in (one, other)]
                self.assertEqual(self.judge(left, right), word)
            # With the tables exchanged the first table of t loses its rank, so that the mix is another one.
            one, other = blocks_pair(figures, blocks(polys=root)), blocks_pair(figures, blocks(polys=(f,)))
            exchanged = one.mixed(((figures.zero, figures.one), (figures.one, figures.zero)))
            self.assertEqual(self.judge(exchanged, other), "mix")

    def test_unlike_comes_first(self):
        for figures in all_figures():
            other = Figures(0 if figures.prime else 7)
            self.assertEqual(raised(same_by_turning, zero_pair(figures, 1, 1), zero_pair(other, 1, 1)), ("Unlike", ()))
            self.assertEqual(raised(same_by_turning, zero_pair(figures, 1, 1), zero_pair(other, 1, 2)), ("Unlike", ()))

    def test_long_numbers(self):
        figures = Figures(0)
        draw = drawer(74)
        given = Pair(figures, *[[[long_number(draw) for _ in range(3)] for _ in range(2)] for _ in range(2)])
        left, right = [tuple(tuple(long_number(draw) for _ in range(size)) for _ in range(size)) for size in (2, 3)]
        self.assertIsNone(self.judge(given, given.turned(left, right)))

    def test_apart_is_a_result(self):
        self.assertEqual(Apart([1]).what, [1])
        self.assertFalse(Apart("size") == Apart("size"))

    def test_turnings_keep_all_that_is_determined(self):
        draw = drawer(75)
        for figures in all_figures():
            given = drawn_pair(figures, draw, most_sides(figures), most_sides(figures) - 1, 0.6)
            self.assertEqual(determined(blocks_of(given)), determined(blocks_of(drawn_turned(given, draw))))


class FaultTest(unittest.TestCase):

    def test_words(self):
        draw = drawer(76)
        for figures in all_figures():
            one = figures.one
            given = drawn_pair(figures, draw, 1, 2)
            given = Pair(figures, given.first, ((one, figures.zero),))
            left, right = drawn_invertible(figures, draw, 1), drawn_invertible(figures, draw, 2)
            other = given.turned(left, right)
            self.assertIsNone(turning_fault(given, other, left, right))
            self.assertIsNone(turning_fault(given, other, [list(row) for row in left], [list(row) for row in right]))
            for wrong in (zero_pair(figures, 1, 1), zero_pair(figures, 2, 2), zero_pair(figures, 2, 1)):
                self.assertEqual(turning_fault(given, wrong, None, None), "size")
            for thing in (None, 1, "a", (), right, ((one, one),), ((True,),), (None,), ((),)):
                self.assertEqual(turning_fault(given, other, thing, None), "left")
            for thing in (None, 1, "ab", (), left, right + right, ((one, one), (one,)), ((one, one), (one, True)),
                          (right[0], None)):
                self.assertEqual(turning_fault(given, other, left, thing), "right")
                self.assertEqual(turning_fault(given, other, ((figures.zero,),), thing), "right")
            flat = ((one, one), (one, one))
            self.assertEqual(turning_fault(given, other, left, flat), "once")
            self.assertEqual(turning_fault(given, other, ((figures.zero,),), right), "once")
            self.assertEqual(turning_fault(given, zero_pair(figures, 1, 2), left, right), "cell")
            self.assertEqual(turning_fault(given, given.mixed(((one, one), (figures.zero, one))),
                                           ((one,),), unit_table(figures, 2)), "cell")

    def test_unlike_comes_first(self):
        given = zero_pair(Figures(3), 1, 1)
        self.assertEqual(raised(turning_fault, given, zero_pair(Figures(5), 1, 2), None, None), ("Unlike", ()))


if __name__ == "__main__":
    unittest.main()
