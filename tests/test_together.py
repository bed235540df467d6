"""Promises 4.08, 4.09, 4.12, 4.19, 4.26, 3.07: least programs led along, wrong ones, parts and sums, kept blocks."""

import itertools
import unittest

from drawnblocks import determined, drawn_blocks, drawn_kinds, drawn_turned, first_five
from drawnprograms import any_program, idle_product, with_more
from helpers import all_figures, drawer, drawn_invertible, drawn_number, drawn_pair, most_sides, numbers, pair, raised
from sparedproducts.blocks import Blocks, blocks_fault, blocks_of, blocks_pair, square_pair
from sparedproducts.counts import changed_pair, fewest_changed, fewest_of, fewest_row
from sparedproducts.bounds import hardest_pair, high_bound, low_bound, most_of
from sparedproducts.figures import Figures
from sparedproducts.making import Making, least_program, least_program_by, making_fault, programs_beside
from sparedproducts.pairs import Pair, zero_pair
from sparedproducts.programs import Program, is_right, letters_where_wrong, wrong_at
from sparedproducts.solving import table_plus, undone_table
from sparedproducts.turnings import same_by_turning, turning_fault

NAMES = ("idle_rows", "idle_columns", "lying", "standing", "polys", "left", "right", "mix")


def sum_of_pairs(one, other):
    figures = one.figures
    return Pair(figures, table_plus(figures, one.first, other.first), table_plus(figures, one.second, other.second))


def changed(made, **more):
    return Blocks(*[more.get(name, getattr(made, name)) for name in NAMES])


class LedTest(unittest.TestCase):

    def test_led_mixed_and_flipped_stay_least(self):
        draw = drawer(271)
        for figures, _, given in drawn_kinds(272, 8):
            program = least_program(given).program
            left, right = drawn_invertible(figures, draw, given.rows), drawn_invertible(figures, draw, given.columns)
            mix = drawn_invertible(figures, draw, 2)
            for other, made in ((given.turned(left, right), program.led(left, right)),
                                (given.mixed(mix), program.mixed(mix)), (given.flipped(), program.flipped()),
                                (given.turned(left, right).mixed(mix).flipped(),
                                 program.led(left, right).mixed(mix).flipped())):
                self.assertTrue(is_right(other, made))
                self.assertEqual(len(made), len(program))
                self.assertEqual(len(made), fewest_of(other).number)
                self.assertEqual(len(made.tidy()), len(program))
                self.assertIsNone(making_fault(other, Making(made, None, least_program(other).rows)))

    def test_led_back(self):
        draw = drawer(273)
        for figures, _, given in drawn_kinds(274, 6):
            program = least_program(given).program
            left, right = drawn_invertible(figures, draw, given.rows), drawn_invertible(figures, draw, given.columns)
            mix = drawn_invertible(figures, draw, 2)
            there = program.led(left, right).mixed(mix)
            back = there.mixed(undone_table(figures, mix)).led(undone_table(figures, left), undone_table(figures, right))
            self.assertEqual(back, program)


class WrongTest(unittest.TestCase):

    def judge(self, given, program):
        """The first wrong cell, and letters for which both tell something else."""
        made = program.pair()
        due = [(answer, row, column) for answer, (one, other) in enumerate(((given.first, made.first),
                                                                            (given.second, made.second)))
               for row in range(given.rows) for column in range(given.columns)
               if one[row][column] != other[row][column]]
        cell = wrong_at(given, program)
        if not due:
            self.assertIsNone(cell)
            self.assertIsNone(letters_where_wrong(given, program))
            self.assertTrue(is_right(given, program))
            return
        self.assertEqual((cell.answer, cell.row, cell.column), due[0])
        self.assertFalse(is_right(given, program))
        left, right = letters_where_wrong(given, program)
        figures = given.figures
        self.assertEqual(left, tuple(figures.one if at == cell.row else figures.zero for at in range(given.rows)))
        self.assertEqual(right, tuple(figures.one if at == cell.column else figures.zero for at in range(given.columns)))
        self.assertNotEqual(given.answers(left, right), program.run(left, right))
        self.assertNotEqual(given.answers(left, right)[cell.answer], program.run(left, right)[cell.answer])

    def test_least_programs_and_spoiled_ones(self):
        draw = drawer(275)
        for figures, _, given in drawn_kinds(276, 8):
            program = least_program(given).program
            self.judge(given, program)
            self.judge(given, with_more(program, idle_product(figures, given.rows, given.columns)))
            for place in range(len(program)):
                products = list(program.products)
                u, v, c, d = products.pop(place)
                self.judge(given, Program(figures, given.rows, given.columns, products))
                products.insert(place, (u, v, c, drawn_number(figures, draw)))
                self.judge(given, Program(figures, given.rows, given.columns, products))
            row, column = draw.randrange(given.rows), draw.randrange(given.columns)
            other = changed_pair(given, draw.randrange(2), row, column, drawn_number(figures, draw))
            self.judge(other, program)

    def test_a_shorter_program_is_wrong(self):
        # No program of fewer products is right, so a drawn one shows it.
        draw = drawer(277)
        for figures, _, given in drawn_kinds(278, 6):
            number = fewest_of(given).number
            program = any_program(figures, draw)
            if number and (program.rows, program.columns) == (given.rows, given.columns):
                less = Program(figures, given.rows, given.columns, program.products[:number - 1])
                self.assertFalse(is_right(given, less))
                self.judge(given, less)
            if number:
                less = Program(figures, given.rows, given.columns, least_program(given).program.products[:-1])
                self.assertIsNotNone(wrong_at(given, less))
                self.judge(given, less)

    def test_unlike_and_other_sizes(self):
        given = zero_pair(Figures(5), 1, 2)
        program = least_program(zero_pair(Figures(7), 1, 1)).program
        for deed in (wrong_at, is_right, letters_where_wrong):
            self.assertEqual(raised(deed, given, program), ("Unlike", ()))
            self.assertEqual(raised(deed, given, Program(Figures(5), 2, 2, ())), ("BadPair", ("size",)))
            self.assertEqual(raised(deed, given, Program(Figures(5), 1, 1, ())), ("BadPair", ("size",)))


class PartsTest(unittest.TestCase):

    def test_parts_of_least_programs(self):
        draw = drawer(279)
        for figures, _, given in drawn_kinds(280, 5):
            products = least_program(given).program.products
            for many in range(len(products) + 1):
                part = draw.sample(products, many)
                made = Program(figures, given.rows, given.columns, part).pair()
                self.assertEqual(fewest_of(made).number, many)

    def test_sums_of_pairs(self):
        draw = drawer(281)
        for figures in all_figures():
            for _ in range(12):
                rows, columns = draw.randint(1, most_sides(figures)), draw.randint(1, most_sides(figures))
                one, other = [drawn_pair(figures, draw, rows, columns, draw.random()) for _ in range(2)]
                first, second = fewest_of(one).number, fewest_of(other).number
                number = fewest_of(sum_of_pairs(one, other)).number
                self.assertTrue(abs(first - second) <= number <= first + second)
                products = least_program(one).program.products + least_program(other).program.products
                self.assertTrue(is_right(sum_of_pairs(one, other), Program(figures, rows, columns, products)))

    def test_cut_outs_keep_what_is_left(self):
        draw = drawer(282)
        for figures, _, given in drawn_kinds(283, 6):
            program = least_program(given).program
            for _ in range(4):
                rows = sorted(draw.sample(range(given.rows), draw.randint(1, given.rows)))
                columns = sorted(draw.sample(range(given.columns), draw.randint(1, given.columns)))
                cut = given.cut_out(rows, columns)
                left = Program(figures, len(rows), len(columns), [
                    ([u[row] for row in rows], [v[column] for column in columns], c, d) for u, v, c, d in program])
                self.assertTrue(is_right(cut, left))
                number = fewest_of(cut).number
                self.assertLessEqual(number, len(left.tidy()))
                struck = given.rows - len(rows) + given.columns - len(columns)
                self.assertTrue(len(program) - 2 * struck <= number <= len(program))

    def test_programs_beside_one_another(self):
        draw = drawer(284)
        for figures in all_figures():
            most = most_sides(figures)
            for _ in range(10):
                rows, columns = draw.randint(1, most - 1), draw.randint(1, most - 1)
                one = drawn_pair(figures, draw, rows, columns, 0.7)
                other = drawn_pair(figures, draw, draw.randint(1, most - rows), draw.randint(1, most - columns), 0.7)
                programs = [least_program(given).program for given in (one, other)]
                made = programs_beside(programs)
                both = one.beside(other)
                self.assertTrue(is_right(both, made))
                number = fewest_of(both).number
                self.assertLessEqual(number, len(made))
                self.assertGreaterEqual(number, max(len(program) for program in programs))
                # Each of both comes back as a cut-out.
                self.assertEqual(both.cut_out(tuple(range(rows)), tuple(range(columns))), one)

    def test_blocks_beside_one_another_may_spare_one(self):
        figures = Figures(0)
        one, other = [square_pair(figures, numbers(figures, poly)) for poly in ((1, 0, 1), (2, 0, 1))]
        self.assertEqual(fewest_of(one).number + fewest_of(other).number, 6)
        self.assertEqual(fewest_of(one.beside(other)).number, 5)
        self.assertEqual(fewest_of(one.beside(one)).number, 6)
        self.assertEqual(len(programs_beside([least_program(one).program] * 2)), 6)
        self.assertEqual(len(least_program(one.beside(other)).program), 5)


class KeptBlocksTest(unittest.TestCase):

    def test_blocks_kept_in_results(self):
        draw = drawer(285)
        for figures, _, given in drawn_kinds(286, 6):
            kept = [fewest_of(given).blocks, least_program(given).blocks,
                    least_program_by(given, [None] * len(fewest_row(given))).blocks]
            for made in kept:
                self.assertIsNone(blocks_fault(given, made))
                self.assertEqual(determined(made), determined(blocks_of(given)))
                self.assertIsNone(turning_fault(given.mixed(made.mix), blocks_pair(figures, made), made.left, made.right))
            row, column = draw.randrange(given.rows), draw.randrange(given.columns)
            arguments = (draw.randrange(2), row, column, drawn_number(figures, draw))
            other = changed_pair(given, *arguments)
            made = fewest_changed(given, *arguments).blocks
            self.assertIsNone(blocks_fault(other, made))
            due = blocks_fault(given, made)
            self.assertEqual(due is None, given == other)

    def test_pairs_made_by_programs_are_turned_back(self):
        draw = drawer(287)
        for figures, _, given in drawn_kinds(288, 5):
            program = least_program(given).program
            self.assertEqual(program.pair(), given)
            left, right = drawn_invertible(figures, draw, given.rows), drawn_invertible(figures, draw, given.columns)
            other = program.led(left, right).pair()
            found = same_by_turning(given, other)
            self.assertEqual(given.turned(*found), other)
            self.assertIsNone(turning_fault(given, other, *found))
            self.assertEqual(fewest_row(other), fewest_row(given))

    def test_odd_things_in_kept_blocks(self):
        for figures, _, given in drawn_kinds(289, 3):
            made = fewest_of(given).blocks
            lists = {name: [list(row) for row in getattr(made, name)] for name in ("left", "right", "mix", "polys")}
            self.assertIsNone(blocks_fault(given, changed(made, lying=list(made.lying), standing=list(made.standing),
                                                          **lists)))
            odd = (None, True, 1.5, "x", b"x", {"a": 1}, object(), [[]], [None], ((),))
            for thing in odd:
                for name in ("idle_rows", "idle_columns", "lying", "standing"):
                    self.assertEqual(blocks_fault(given, changed(made, **{name: thing})), "blocks")
                for name in ("polys", "mix", "left", "right"):
                    self.assertEqual(blocks_fault(given, changed(made, **{name: thing})), name)
                self.assertEqual(turning_fault(given, given, thing, thing), "left")
                self.assertEqual(turning_fault(given, given, made.left, thing), "right")
            for name in ("idle_rows", "idle_columns"):
                self.assertEqual(blocks_fault(given, changed(made, **{name: [1]})), "blocks")
                self.assertEqual(blocks_fault(given, changed(made, **{name: 99})), "size")

    def test_bounds_changes_and_programs_agree(self):
        draw = drawer(290)
        for figures, _, given in drawn_kinds(291, 5):
            number = fewest_of(given).number
            self.assertEqual(len(least_program(given).program), number)
            self.assertTrue(low_bound(given) <= number <= min(high_bound(given), most_of(given.rows, given.columns)))
            arguments = (draw.randrange(2), draw.randrange(given.rows), draw.randrange(given.columns),
                         drawn_number(figures, draw))
            other = changed_pair(given, *arguments)
            less = fewest_changed(given, *arguments).number
            self.assertLessEqual(abs(less - number), 1)
            self.assertEqual(len(least_program(other).program), less)

    def test_hardest_pairs_have_least_programs(self):
        for figures in all_figures():
            for rows, columns in itertools.product(range(1, most_sides(figures) + 1), repeat=2):
                given = hardest_pair(figures, rows, columns)
                made = least_program(given)
                self.assertEqual(len(made.program), most_of(rows, columns))
                self.assertIsNone(making_fault(given, made))

    def test_determined_attributes_of_built_blocks(self):
        draw = drawer(292)
        for figures in all_figures():
            for _ in range(6):
                due = drawn_blocks(figures, draw)
                given = drawn_turned(blocks_pair(figures, due), draw)
                self.assertEqual(first_five(least_program(given).blocks), first_five(due))
                self.assertEqual(first_five(fewest_of(given).blocks), first_five(due))


class ExampleTest(unittest.TestCase):

    def test_complex_numbers_by_three_products(self):
        figures = Figures(0)
        given = pair(figures, ((1, 0), (0, -1)), ((0, 1), (1, 0)))
        program = Program(figures, 2, 2, [(numbers(figures, u), numbers(figures, v)) + numbers(figures, ends)
                                          for u, v, ends in (((1, 1), (1, 0), (1, 1)), ((1, 0), (-1, 1), (0, 1)),
                                                             ((0, 1), (1, 1), (-1, 0)))])
        self.assertTrue(is_right(given, program))
        self.assertIsNone(making_fault(given, Making(program, None, least_program(given).rows)))


if __name__ == "__main__":
    unittest.main()
