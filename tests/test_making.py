"""Promises 4.11, 4.13, 4.14, 4.19, 4.21 to 4.23: plain programs, corners, least programs, makings [5.8] to [5.12]."""

import unittest

from drawnblocks import blocks, determined, drawn_blocks, drawn_kinds, drawn_mixed, drawn_turned
from drawnprograms import any_program, drawn_program, idle_product, tables_of, with_more
from helpers import all_figures, drawer, drawn_pair, most_sides, numbers, pair, raised
from secondway import due_number, due_row, number_by_ranks, plainly_apart
from sparedproducts.blocks import Blocks, blocks_fault, blocks_of, blocks_pair, lying_pair, square_pair
from sparedproducts.counts import fewest_of, fewest_row
from sparedproducts.figures import Figures
from sparedproducts.making import Making, least_program, least_program_by, making_fault, plain_program
from sparedproducts.making import programs_beside
from sparedproducts.pairs import Pair, zero_pair
from sparedproducts.points import points_for, program_points
from sparedproducts.programs import Program, is_right
from sparedproducts.squareprograms import block_program
from test_points import drawn_points
from test_squareprograms import unlike_numbers


def couples_of(made):
    """The blocks that need products, in the order of [5.10]."""
    return ([("lying", size) for size in made.lying] + [("standing", size) for size in made.standing]
            + [("square", poly) for poly in made.polys])


def due_rows(figures, made):
    rows, first = [], 0
    for couple, (_, _, cost) in zip(couples_of(made), due_row(figures, made)):
        rows.append((couple, first, cost))
        first += cost
    return tuple(rows)


def in_corners(figures, rows, columns, programs):
    """The program of all programs corner to corner, by nothing but the words of [5.9], with idle rows and columns."""
    products, row, column = [], 0, 0
    for program in programs:
        for u, v, c, d in program:
            left, right = [figures.zero] * rows, [figures.zero] * columns
            left[row:row + len(u)], right[column:column + len(v)] = u, v
            products.append((left, right, c, d))
        row, column = row + program.rows, column + program.columns
    return Program(figures, rows, columns, products)


class PlainTest(unittest.TestCase):

    def test_one_product_for_each_cell(self):
        draw = drawer(191)
        for figures in all_figures():
            for rows in range(1, most_sides(figures) + 1):
                for columns in range(1, most_sides(figures) + 1):
                    for filled in (1.0, 0.4):
                        given = drawn_pair(figures, draw, rows, columns, filled)
                        made = plain_program(given)
                        due = []
                        for i in range(rows):
                            for j in range(columns):
                                ends = given.first[i][j], given.second[i][j]
                                if ends != (figures.zero, figures.zero):
                                    due.append((tuple(figures.one if k == i else figures.zero for k in range(rows)),
                                                tuple(figures.one if k == j else figures.zero for k in range(columns)))
                                               + ends)
                        self.assertEqual(made.products, tuple(due))
                        self.assertTrue(is_right(given, made))
                    self.assertEqual(plain_program(zero_pair(figures, rows, columns)).products, ())

    def test_a_number_in_one_table_alone(self):
        figures = Figures(3)
        made = plain_program(Pair(figures, ((0, 1), (0, 0)), ((0, 0), (2, 0))))
        self.assertEqual(made.products, (((1, 0), (0, 1), 1, 0), ((0, 1), (1, 0), 0, 2)))


class BesideTest(unittest.TestCase):

    def test_corner_to_corner(self):
        draw = drawer(192)
        for figures in all_figures():
            done = 0
            while done < 10:
                programs = [any_program(figures, draw) for _ in range(draw.choice((1, 2, 2, 3)))]
                rows, columns = (sum(getattr(program, name) for program in programs) for name in ("rows", "columns"))
                if max(rows, columns) <= most_sides(figures):
                    done += 1
                    made = programs_beside(programs)
                    self.assertEqual(made, in_corners(figures, rows, columns, programs))
                    self.assertEqual(made, programs_beside(tuple(programs)))
                    due = programs[0].pair()
                    for program in programs[1:]:
                        due = due.beside(program.pair())
                    self.assertTrue(is_right(due, made))
                    self.assertEqual(len(made), sum(len(program) for program in programs))

    def test_five_and_one(self):
        figures = Figures(5)
        single = Program(figures, 1, 1, [((1,), (2,), 3, 4)])
        self.assertEqual(programs_beside([single]), single)
        made = programs_beside([single] * 5)
        self.assertEqual((made.rows, made.columns, len(made)), (5, 5, 5))
        self.assertEqual(made.products[3], ((0, 0, 0, 1, 0), (0, 0, 0, 2, 0), 3, 4))

    def test_refusals_in_their_order(self):
        one = Program(Figures(5), 1, 1, ())
        other = Program(Figures(7), 1, 1, ())
        for thing in (None, (), [], "ab", {}, one, 3, (one,) * 6, [one, other] * 3):
            self.assertEqual(raised(programs_beside, thing), ("BadMany", (5,)))
        high, wide = Program(Figures(5), 3, 1, ()), Program(Figures(5), 1, 3, ())
        for thing in ((one, other), (one, one, other), (high, high, other), [other, one]):
            self.assertEqual(raised(programs_beside, thing), ("Unlike", ()))
        both = Program(Figures(5), 3, 3, [((1,) * 3, (1,) * 3, 1, 1)] * 20)
        self.assertEqual(raised(programs_beside, (high, high)), ("BadProgram", (0, "rows")))
        self.assertEqual(raised(programs_beside, (both, both)), ("BadProgram", (0, "rows")))
        self.assertEqual(raised(programs_beside, (wide, wide)), ("BadProgram", (0, "columns")))
        long = Program(Figures(5), 2, 3, [((1,) * 2, (1,) * 3, 1, 1)] * 16)
        self.assertEqual(raised(programs_beside, (long, long)), ("BadProgram", (0, "columns")))
        short = Program(Figures(5), 2, 2, [((1,) * 2, (1,) * 2, 1, 1)] * 16)
        self.assertEqual(raised(programs_beside, (short, short)), ("BadProgram", (0, "many")))
        less = Program(Figures(5), 2, 2, short.products[:14])
        self.assertEqual(len(programs_beside((short, less))), 30)
        # By a prime no program is wider than it.
        for prime in (2, 3):
            single = Program(Figures(prime), 1, 1, ())
            self.assertEqual(raised(programs_beside, [single] * (prime + 1)), ("BadProgram", (0, "rows")))
            lying = Program(Figures(prime), 1, 2, ())
            self.assertEqual(raised(programs_beside, [lying] * 2),
                             ("BadProgram", (0, "columns")))
            self.assertIsNone(raised(programs_beside, [single] * prime))


class JudgedTest(unittest.TestCase):

    def judge(self, given, made):
        """All of [5.10], the blocks being judged by the words of [2.7]."""
        figures = given.figures
        self.assertIsInstance(made, Making)
        self.assertTrue(is_right(given, made.program))
        self.assertEqual(tables_of(figures, given.rows, given.columns, made.program.products),
                         [given.first, given.second])
        self.assertEqual(determined(made.blocks), determined(blocks_of(given)))
        self.assertIsNone(blocks_fault(given, made.blocks))
        self.assertEqual(len(made.program), fewest_of(given).number)
        self.assertEqual(len(made.program), number_by_ranks(given))
        self.assertIs(type(made.rows), tuple)
        at = 0
        for entry, couple, (word, size, cost) in zip(made.rows, couples_of(made.blocks), fewest_row(given)):
            self.assertIs(type(entry), tuple)
            self.assertEqual(entry, (couple, at, cost))
            at += cost
        self.assertEqual(len(made.rows), len(couples_of(made.blocks)))
        self.assertEqual(at, len(made.program))
        self.assertIsNone(making_fault(given, made))
        return made

    def led_to_corners(self, given, made, programs):
        led = made.program.mixed(made.blocks.mix).led(made.blocks.left, made.blocks.right)
        self.assertEqual(led, in_corners(given.figures, given.rows, given.columns, programs))


class LeastTest(JudgedTest):

    def test_drawn_pairs_of_every_size(self):
        draw = drawer(193)
        for figures in all_figures():
            for rows in range(1, most_sides(figures) + 1):
                for columns in range(1, most_sides(figures) + 1):
                    for filled in (1.0, 0.4):
                        given = drawn_pair(figures, draw, rows, columns, filled)
                        made = self.judge(given, least_program(given))
                        self.led_to_corners(given, made, [block_program(figures, couple)
                                                          for couple in couples_of(made.blocks)])

    def test_built_blocks(self):
        for figures, due, given in drawn_kinds(194, 20):
            made = self.judge(given, least_program(given))
            self.assertEqual(len(made.program), due_number(figures, due))
            self.assertEqual([(couple[0], many) for couple, _, many in made.rows],
                             [(word, cost) for word, _, cost in due_row(figures, due)])
            self.led_to_corners(given, made, [block_program(figures, couple) for couple in couples_of(made.blocks)])

    def test_rows_name_the_blocks_behind_turnings(self):
        draw = drawer(195)
        for figures in all_figures():
            for _ in range(20):
                due = drawn_blocks(figures, draw)
                made = least_program(drawn_turned(blocks_pair(figures, due), draw))
                self.assertEqual(made.rows, due_rows(figures, due))

    def test_corners_as_they_stand(self):
        # Each block's products, at the corner where the block stands, come back from the pair of the blocks.
        for figures, due, _ in drawn_kinds(196, 10):
            given = blocks_pair(figures, due)
            made = least_program(given)
            for couple, first, many in made.rows:
                self.assertEqual(len(made.program.products[first:first + many]), many)
                program = Program(figures, given.rows, given.columns, made.program.products[first:first + many])
                self.assertEqual(fewest_of(program.pair()).number, many)

    def test_zeros(self):
        for figures in all_figures():
            for rows in range(1, most_sides(figures) + 1):
                for columns in range(1, most_sides(figures) + 1):
                    given = zero_pair(figures, rows, columns)
                    made = self.judge(given, least_program(given))
                    self.assertEqual((made.program.products, made.rows), ((), ()))
                    self.assertEqual((made.program.rows, made.program.columns), (rows, columns))

    def test_all_kinds_together(self):
        draw = drawer(197)
        for figures in all_figures():
            if most_sides(figures) == 5:
                twice = numbers(figures, (0, 0, 1))
                for due in (blocks(0, 0, (1,), (1,), (twice,)), blocks(1, 0, (1, 1), (1,), ()),
                            blocks(1, 1, (), (1,), (twice,)), blocks(0, 0, (), (), (twice[1:], twice, twice))):
                    given = drawn_turned(drawn_mixed(blocks_pair(figures, due), draw), draw)
                    made = self.judge(given, least_program(given))
                    self.assertEqual(len(made.program), due_number(figures, due))

    def test_first_table_without_inverse_and_last_alone(self):
        draw = drawer(198)
        for figures in all_figures():
            most = most_sides(figures)
            given = drawn_pair(figures, draw, most, most)
            zeros = zero_pair(figures, most, most).first
            for first in (zeros, zeros[:1] + given.first[1:]):
                self.judge(Pair(figures, first, given.second), least_program(Pair(figures, first, given.second)))
            if figures.prime in (2, 3, 5):
                given = pair(figures, [[(-i if i == j else 0) for j in range(most)] for i in range(most)],
                             [[(1 if i == j else 0) for j in range(most)] for i in range(most)])
                made = self.judge(given, least_program(given))
                self.assertEqual(len(made.program), most)

    def test_complex_numbers(self):
        for figures in all_figures():
            given = pair(figures, ((1, 0), (0, -1)), ((0, 1), (1, 0)))
            made = self.judge(given, least_program(given))
            self.assertEqual(len(made.program), 2 if figures.prime in (5, 13) else 3)

    def test_examples(self):
        figures = Figures(0)
        given = pair(figures, ((1, 0, 0), (0, 1, 0), (0, 0, 1)), ((1, 0, 0), (0, 0, -1), (0, 1, 2)))
        made = self.judge(given, least_program(given))
        self.assertEqual(made.rows, ((("square", numbers(figures, (-1, 1))), 0, 1),
                                     (("square", numbers(figures, (1, -2, 1))), 1, 3)))

    def test_said_again_and_nothing_changed(self):
        for figures, _, given in drawn_kinds(199, 4):
            copy = Pair(figures, given.first, given.second)
            one, other = least_program(given), least_program(copy)
            self.assertEqual((one.program, one.rows), (other.program, other.rows))
            self.assertEqual(one.blocks.left, other.blocks.left)
            self.assertEqual(given, copy)


class ByTest(JudgedTest):

    def drawn_choices(self, figures, draw, couples):
        choices = []
        for word, told in couples:
            if draw.random() < 0.2 or (word == "square" and plainly_apart(figures, told)):
                choices.append(None)
            elif word == "square":
                choices.append(unlike_numbers(figures, draw, len(told) - 1))
            else:
                choices.append(drawn_points(figures, draw, told + 1))
        return choices

    def test_chosen_points(self):
        draw = drawer(201)
        for figures in all_figures():
            for _ in range(15):
                given = drawn_turned(blocks_pair(figures, drawn_blocks(figures, draw)), draw)
                couples = couples_of(blocks_of(given))
                choices = self.drawn_choices(figures, draw, couples)
                made = self.judge(given, least_program_by(given, choices))
                self.led_to_corners(given, made, [block_program(figures, couple, points)
                                                  for couple, points in zip(couples, choices)])
                again = least_program_by(given, tuple(list(points) if points else points for points in choices))
                self.assertEqual(again.program, made.program)
                self.assertEqual(len(made.program), len(least_program(given).program))

    def test_none_at_every_block(self):
        for figures, _, given in drawn_kinds(202, 8):
            due = least_program(given)
            made = least_program_by(given, [None] * len(due.rows))
            self.assertEqual((made.program, made.rows), (due.program, due.rows))
            self.assertEqual(made.program, least_program_by(given, (None,) * len(due.rows)).program)

    def test_zeros_by_no_choices(self):
        for figures in all_figures():
            given = zero_pair(figures, 2, 1)
            for choices in ((), []):
                self.assertEqual(least_program_by(given, choices).program, Program(figures, 2, 1, ()))
            self.assertEqual(raised(least_program_by, given, None), ("BadChoice", (0, 0)))
            self.assertEqual(raised(least_program_by, given, (None,)), ("BadChoice", (0, 0)))

    def test_points_of_single_blocks(self):
        for figures in all_figures():
            for size in range(1, most_sides(figures)):
                points = points_for(figures, size + 1)[::-1]
                made = least_program_by(lying_pair(figures, size), (points,))
                self.assertEqual(program_points(made.program), points)

    def test_first_wrong_block_and_place(self):
        figures = Figures(5)
        given = blocks_pair(figures, blocks(0, 0, (1,), (1,), ((0, 0, 1),)))
        zero, good = 0, [(0, 1), (0, "last"), (3, 4)]
        self.assertIsNone(raised(least_program_by, given, good))
        for thing in (None, "last", {}, 3, (), good[:2], good + [None], [[]] * 4):
            self.assertEqual(raised(least_program_by, given, thing), ("BadChoice", (0, 0)))
        for at, wrong, index in ((0, (0, 0), 1), (0, (5, 0), 0), (0, (), 0), (0, (0, 1, 2), 0), (1, "last", 0),
                                 (1, ("last", "last"), 1), (1, (True, 1), 0), (2, (0, "last"), 1), (2, (1,), 0),
                                 (2, ("last", None), 0), (2, (zero, None), 1), (2, False, 0)):
            choices = list(good)
            choices[at] = wrong
            self.assertEqual(raised(least_program_by, given, choices), ("BadChoice", (at, index)))
            # What comes behind may be wrong too.
            choices[at + 1:] = ["last"] * (2 - at)
            self.assertEqual(raised(least_program_by, given, choices), ("BadChoice", (at, index)))

    def test_a_poly_that_comes_apart_takes_none(self):
        for figures in all_figures():
            given = square_pair(figures, numbers(figures, (0, -1, 1)))
            points = points_for(figures, 2)
            self.assertIsNone(raised(least_program_by, given, [None]))
            for thing in (points, (), "last", 0):
                self.assertEqual(raised(least_program_by, given, [thing]), ("BadChoice", (0, 0)))
            given = square_pair(figures, numbers(figures, (0, 0, 1)))
            self.assertIsNone(raised(least_program_by, given, [points]))


class FaultTest(unittest.TestCase):

    def test_right_ones(self):
        draw = drawer(203)
        for figures, _, given in drawn_kinds(204, 8):
            made = least_program(given)
            self.assertIsNone(making_fault(given, made))
            # The blocks are not looked at, and another program of as many products is right as well.
            self.assertIsNone(making_fault(given, Making(made.program, None, made.rows)))
            products = list(made.program.products)
            draw.shuffle(products)
            other = Program(figures, given.rows, given.columns, products)
            self.assertIsNone(making_fault(given, Making(other, "any", made.rows)))

    def test_program(self):
        for figures, _, given in drawn_kinds(205, 4):
            made = least_program(given)
            other = Figures(7 if figures.prime != 7 else 11)
            for program in (Program(other, 1, 1, ()), Program(figures, given.rows % most_sides(figures) + 1,
                                                              given.columns, ()),
                            Program(figures, given.rows, given.columns % most_sides(figures) + 1, ())):
                self.assertEqual(making_fault(given, Making(program, made.blocks, made.rows)), "program")
                self.assertEqual(making_fault(given, Making(program, None, None)), "program")

    def test_size(self):
        for figures, _, given in drawn_kinds(206, 6):
            made = least_program(given)
            more = with_more(made.program, idle_product(figures, given.rows, given.columns))
            self.assertTrue(is_right(given, more))
            self.assertEqual(making_fault(given, Making(more, made.blocks, made.rows)), "size")
            self.assertEqual(making_fault(given, Making(more, None, "x")), "size")
            if len(made.program):
                less = Program(figures, given.rows, given.columns, made.program.products[1:])
                self.assertEqual(making_fault(given, Making(less, made.blocks, None)), "size")

    def test_rows(self):
        for figures, _, given in drawn_kinds(207, 6):
            made = least_program(given)
            rows = made.rows
            wrong = [None, list(rows), rows + ((("lying", 1), len(made.program), 0),), "rows", 0, (None,) + rows]
            if rows:
                couple, first, many = rows[0]
                wrong += [rows[1:], rows[::-1] + rows[:1], ([couple, first, many],) + rows[1:],
                          ((list(couple), first, many),) + rows[1:], ((couple, first + 1, many),) + rows[1:],
                          ((couple, first, many + 1),) + rows[1:], ((("lying", 9), first, many),) + rows[1:]]
            if rows and rows[-1][0][0] == "square":
                couple, first, many = rows[-1]
                wrong.append(rows[:-1] + ((("square", list(couple[1])), first, many),))
                wrong.append(rows[:-1] + ((("square", len(couple[1]) - 1), first, many),))
            for thing in wrong:
                self.assertEqual(making_fault(given, Making(made.program, made.blocks, thing)), "rows")

    def test_right(self):
        draw = drawer(208)
        for figures, _, given in drawn_kinds(209, 6):
            made = least_program(given)
            if len(made.program):
                idle = idle_product(figures, given.rows, given.columns)
                wrong = Program(figures, given.rows, given.columns, made.program.products[1:] + (idle,))
                self.assertEqual(making_fault(given, Making(wrong, made.blocks, made.rows)), "right")
                self.assertEqual(making_fault(given, Making(wrong, made.blocks, ())), "rows")
                drawn = drawn_program(figures, draw, given.rows, given.columns, len(made.program))
                due = None if is_right(given, drawn) else "right"
                self.assertEqual(making_fault(given, Making(drawn, None, made.rows)), due)

    def test_results_keep_what_they_are_given(self):
        made = Making("a", [1], None)
        self.assertEqual((made.program, made.blocks, made.rows), ("a", [1], None))
        self.assertFalse(made == Making("a", [1], None))
        self.assertIsInstance(least_program(zero_pair(Figures(2), 1, 1)).blocks, Blocks)


if __name__ == "__main__":
    unittest.main()
