"""Promise 2.01: programs [1.7] to [1.10], [0.3], [0.6], [0.9]."""

import unittest

from drawnprograms import any_program, drawn_row, sum_of
from helpers import ALL, PRIMES, all_figures, drawer, drawn_invertible, long_number, numbers, pair, plain_times
from helpers import raised
from sparedproducts.figures import Figures
from sparedproducts.pairs import Pair, zero_pair
from sparedproducts.programs import Cell, Program, is_right, letters_where_wrong, wrong_at


def complex_program(figures):
    return Program(figures, 2, 2, [(numbers(figures, u), numbers(figures, v)) + numbers(figures, ends)
                                   for u, v, ends in (((1, 1), (1, 0), (1, 1)), ((1, 0), (-1, 1), (0, 1)),
                                                      ((0, 1), (1, 1), (-1, 0)))])


class MakingTest(unittest.TestCase):

    def test_attributes_len_and_iteration(self):
        for figures in all_figures():
            one, zero = figures.one, figures.zero
            given = [[[one], (zero,), one, one], ([zero], [one], zero, one)]
            made = Program(figures, 1, 1, given)
            due = (((one,), (zero,), one, one), ((zero,), (one,), zero, one))
            self.assertEqual(made.products, due)
            self.assertEqual((made.figures, made.rows, made.columns), (figures, 1, 1))
            self.assertEqual(len(made), 2)
            self.assertEqual(tuple(made), due)
            self.assertIs(type(made.products), tuple)
            self.assertTrue(all(type(entry) is tuple and type(entry[0]) is type(entry[1]) is tuple for entry in made))
            # Later changes of what was passed in change nothing.
            given[0][0][0] = zero
            given.append(None)
            self.assertEqual(made.products, due)
            self.assertEqual(len(Program(figures, 1, 1, ())), 0)
            self.assertEqual(len(Program(figures, 1, 1, [due[0]] * 30)), 30)

    def test_sizes(self):
        for prime in ALL:
            figures = Figures(prime)
            for thing in (0, 6, -1, True, None, "1", 1.0, (1,), 10 ** 20):
                self.assertEqual(raised(Program, figures, thing, 1, ()), ("BadProgram", (0, "rows")))
                self.assertEqual(raised(Program, figures, 1, thing, ()), ("BadProgram", (0, "columns")))
                self.assertEqual(raised(Program, figures, thing, None, None), ("BadProgram", (0, "rows")))
                self.assertEqual(raised(Program, figures, 1, thing, None), ("BadProgram", (0, "columns")))
            for many in range(1, 6):
                wide = prime and many > prime
                self.assertEqual(raised(Program, figures, many, 1, ()), ("BadProgram", (0, "rows")) if wide else None)
                self.assertEqual(raised(Program, figures, 1, many, ()), ("BadProgram", (0, "columns")) if wide else None)

    def test_many(self):
        for figures in all_figures():
            entry = ((figures.one,), (figures.one,), figures.one, figures.one)
            for thing in (None, 3, "ab", {}, [entry] * 31, (None,) * 31):
                self.assertEqual(raised(Program, figures, 1, 1, thing), ("BadProgram", (0, "many")))

    def test_products(self):
        for figures in all_figures():
            one, zero = figures.one, figures.zero
            good = ((one, zero), (one,), one, zero)
            if figures.prime:
                numberless = (True, None, "1", -1, figures.prime, 1.0, (1, 1))
            else:
                numberless = (True, None, "1", 1, (2, 2), (1, 0), [1, 1])
            for thing in (None, 1, "abcd", (), good[:3], good + (one,), {}):
                self.assertEqual(raised(Program, figures, 2, 1, [good, thing]), ("BadProgram", (1, "product")))
            for thing in [None, "ab", (), (one,), (one,) * 3] + [(one, number) for number in numberless]:
                self.assertEqual(raised(Program, figures, 2, 1, [good, good, (thing,) + good[1:]]),
                                 ("BadProgram", (2, "left")))
                self.assertEqual(raised(Program, figures, 2, 1, [(thing, None, None, None)]),
                                 ("BadProgram", (0, "left")))
                self.assertEqual(raised(Program, figures, 1, 2, [((one,), thing, None, one)]),
                                 ("BadProgram", (0, "right")))
            for thing in numberless:
                self.assertEqual(raised(Program, figures, 2, 1, [good[:2] + (thing, one)]), ("BadProgram", (0, "number")))
                self.assertEqual(raised(Program, figures, 2, 1, [good, good[:2] + (one, thing)]),
                                 ("BadProgram", (1, "number")))
            # All of a product comes ahead of the next one.
            self.assertEqual(raised(Program, figures, 2, 1, [good[:3] + (None,), None]), ("BadProgram", (0, "number")))

    def test_equality(self):
        figures = Figures(3)
        entry = ((1,), (2,), 0, 1)
        one = Program(figures, 1, 1, [entry])
        self.assertTrue(one == Program(Figures(3), 1, 1, (entry,)))
        self.assertTrue(one != Program(figures, 1, 1, ()))
        self.assertTrue(one != Program(Figures(5), 1, 1, [entry]))
        self.assertTrue(Program(figures, 1, 2, ()) != Program(figures, 2, 1, ()))
        self.assertTrue(Program(figures, 1, 2, ()) != Program(figures, 1, 1, ()))
        none = [Program(Figures(3), rows, columns, ()) for rows, columns in ((1, 1), (1, 2), (2, 1), (2, 2))]
        for at, other in enumerate(none):
            self.assertEqual([kept == other for kept in none], [place == at for place in range(4)])
        self.assertFalse(one == (entry,))
        self.assertFalse(one == None)  # noqa: E711


class RunningTest(unittest.TestCase):

    def test_pair_and_run_agree(self):
        draw = drawer(21)
        for figures in all_figures():
            for _ in range(20):
                made = any_program(figures, draw)
                given = made.pair()
                for at, due in ((2, given.first), (3, given.second)):
                    for i in range(made.rows):
                        for j in range(made.columns):
                            self.assertEqual(due[i][j], sum_of(figures, [
                                figures.times(entry[at], figures.times(entry[0][i], entry[1][j])) for entry in made]))
                left, right = drawn_row(figures, draw, made.rows), drawn_row(figures, draw, made.columns)
                self.assertEqual(made.run(list(left), right), given.answers(left, right))
                self.assertIs(type(made.run(left, right)), tuple)

    def test_complex_numbers(self):
        for figures in all_figures():
            made = complex_program(figures)
            due = pair(figures, ((1, 0), (0, -1)), ((0, 1), (1, 0)))
            self.assertEqual(made.pair(), due)
            self.assertTrue(is_right(due, made))
        figures = Figures(0)
        self.assertEqual(complex_program(figures).run(numbers(figures, (2, 3)), numbers(figures, (5, 7))),
                         numbers(figures, (-11, 29)))

    def test_no_products(self):
        for figures in all_figures():
            made = Program(figures, 1, 2, ())
            self.assertEqual(made.pair(), zero_pair(figures, 1, 2))
            self.assertEqual(made.run((figures.one,), (figures.one,) * 2), (figures.zero,) * 2)

    def test_run_refuses(self):
        for figures in all_figures():
            made = Program(figures, 2, 1, ())
            one = figures.one
            for thing, index in ((None, 0), ("ab", 0), ((), 0), ((one,), 1), ((one,) * 3, 2), ((one, None), 1),
                                 ((True, one), 0)):
                self.assertEqual(raised(made.run, thing, (one,)), ("BadLetters", ("left", index)))
                self.assertEqual(raised(made.run, thing, None), ("BadLetters", ("left", index)))
                self.assertEqual(raised(made.flipped().run, (one,), thing), ("BadLetters", ("right", index)))

    def test_long_numbers(self):
        figures = Figures(0)
        draw = drawer(22)
        u, v, x, y = [tuple(long_number(draw) for _ in range(2)) for _ in range(4)]
        made = Program(figures, 2, 2, [(u, v) + x, (y, x) + u])
        self.assertEqual(made.run(x, y), made.pair().answers(x, y))
        self.assertEqual(made.tidy().pair(), made.pair())


class ChangingTest(unittest.TestCase):

    def test_led(self):
        draw = drawer(23)
        for figures in all_figures():
            for _ in range(10):
                made = any_program(figures, draw)
                left = drawn_invertible(figures, draw, made.rows)
                right = drawn_invertible(figures, draw, made.columns)
                turned = made.led([list(row) for row in left], right)
                self.assertTrue(is_right(made.pair().turned(left, right), turned))
                self.assertEqual(len(turned), len(made))
                for old, new in zip(made, turned):
                    self.assertEqual([(n,) for n in new[0]], list(plain_times(figures, left, [(n,) for n in old[0]])))
                    self.assertEqual((new[1],), plain_times(figures, (old[1],), right))
                    self.assertEqual(new[2:], old[2:])

    def test_led_refuses(self):
        for figures in all_figures():
            made = Program(figures, 1, 2, ())
            one, zero = figures.one, figures.zero
            right = ((one, zero), (zero, one))
            for thing, due in ((None, (0, "rows")), (right, (0, "rows")), ((None,), (0, "columns")),
                               (((True,),), (0, "number"))):
                self.assertEqual(raised(made.led, thing, right), ("BadTable", due))
                self.assertEqual(raised(made.led, thing, None), ("BadTable", due))
            self.assertEqual(raised(made.led, ((zero,),), ((one, zero), (one,))), ("BadTable", (1, "columns")))
            self.assertEqual(raised(made.led, ((one,),), ((one, one), (one, one))), ("NotOnce", ()))
            self.assertEqual(raised(made.led, ((zero,),), right), ("NotOnce", ()))

    def test_mixed(self):
        draw = drawer(24)
        for figures in all_figures():
            for _ in range(10):
                made = any_program(figures, draw)
                mix = drawn_invertible(figures, draw, 2)
                mixed = made.mixed([list(row) for row in mix])
                self.assertTrue(is_right(made.pair().mixed(mix), mixed))
                for old, new in zip(made, mixed):
                    self.assertEqual(new[:2], old[:2])
                    self.assertEqual([(n,) for n in new[2:]], list(plain_times(figures, mix, [(n,) for n in old[2:]])))

    def test_mixed_refuses(self):
        for figures in all_figures():
            made = Program(figures, 1, 1, ())
            one = figures.one
            for thing, due in ((None, (0, "rows")), (((one,) * 2,), (0, "rows")), (((one,), (one,)), (0, "columns")),
                               (((one, one), (one, None)), (1, "number"))):
                self.assertEqual(raised(made.mixed, thing), ("BadTable", due))
            self.assertEqual(raised(made.mixed, ((one, one), (one, one))), ("NotOnce", ()))

    def test_flipped(self):
        draw = drawer(25)
        for figures in all_figures():
            made = any_program(figures, draw)
            flipped = made.flipped()
            self.assertEqual((flipped.rows, flipped.columns), (made.columns, made.rows))
            self.assertEqual(flipped.products, tuple((v, u, c, d) for u, v, c, d in made))
            self.assertEqual(flipped.pair(), made.pair().flipped())


class TidyTest(unittest.TestCase):

    def test_what_does_nothing_goes(self):
        for figures in all_figures():
            one, zero = figures.one, figures.zero
            keep = ((zero, one), (one, one), zero, one)
            more = ((one, zero), (zero, one), one, zero)
            made = Program(figures, 2, 2, [((zero, zero), (one, one), one, one), keep,
                                           ((one, one), (zero, zero), one, one),
                                           ((one, one), (one, one), zero, zero), more])
            self.assertEqual(made.tidy().products, (keep, more))
            self.assertEqual(made.tidy().tidy(), made.tidy())
            self.assertEqual(len(Program(figures, 2, 2, ()).tidy()), 0)

    def test_sums_begin_with_one(self):
        figures = Figures(0)
        made = Program(figures, 3, 2, [(numbers(figures, (0, 2, 3)), numbers(figures, (-3, 1)))
                                       + numbers(figures, (1, (1, 2)))]).tidy()
        self.assertEqual(made.products, ((numbers(figures, (0, 1, (3, 2))), numbers(figures, (1, (-1, 3))))
                                         + numbers(figures, (-6, -3)),))
        self.assertEqual(Program(Figures(7), 1, 1, [((3,), (4,), 2, 1)]).tidy().products, (((1,), (1,), 3, 5),))

    def test_the_pair_is_kept(self):
        draw = drawer(26)
        for figures in all_figures():
            for _ in range(20):
                made = any_program(figures, draw, 0.5)
                tidy = made.tidy()
                self.assertEqual(tidy.pair(), made.pair())
                for u, v, c, d in tidy:
                    for row in (u, v):
                        self.assertEqual([n for n in row if n != figures.zero][0], figures.one)
                    self.assertNotEqual((c, d), (figures.zero,) * 2)


class WrongTest(unittest.TestCase):

    def test_the_first_cell(self):
        draw = drawer(27)
        for figures in all_figures():
            for _ in range(25):
                made = any_program(figures, draw)
                given = made.pair()
                self.assertIsNone(wrong_at(given, made))
                self.assertIs(is_right(given, made), True)
                self.assertIsNone(letters_where_wrong(given, made))
                tables = [[list(row) for row in given.first], [list(row) for row in given.second]]
                places = sorted((draw.randrange(2), draw.randrange(made.rows), draw.randrange(made.columns))
                                for _ in range(draw.randint(1, 3)))
                for answer, row, column in set(places):
                    tables[answer][row][column] = figures.plus(tables[answer][row][column], figures.one)
                wrong = Pair(figures, tables[0], tables[1])
                cell = wrong_at(wrong, made)
                self.assertIsInstance(cell, Cell)
                self.assertEqual((cell.answer, cell.row, cell.column), places[0])
                self.assertIs(is_right(wrong, made), False)
                left, right = letters_where_wrong(wrong, made)
                self.assertEqual(left, tuple(figures.one if i == cell.row else figures.zero for i in range(made.rows)))
                self.assertEqual(right, tuple(figures.one if j == cell.column else figures.zero
                                              for j in range(made.columns)))
                self.assertNotEqual(wrong.answers(left, right), made.run(left, right))

    def test_refusals(self):
        for deed in (wrong_at, is_right, letters_where_wrong):
            for prime in PRIMES:
                given = zero_pair(Figures(prime), 1, 2)
                self.assertEqual(raised(deed, given, Program(Figures(0), 1, 2, ())), ("Unlike", ()))
                # Unlike figures are told ahead of unlike sizes.
                self.assertEqual(raised(deed, given, Program(Figures(0), 2, 2, ())), ("Unlike", ()))
                self.assertEqual(raised(deed, given, Program(Figures(prime), 2, 2, ())), ("BadPair", ("size",)))
                self.assertEqual(raised(deed, given, Program(Figures(prime), 1, 1, ())), ("BadPair", ("size",)))

    def test_cell_is_a_result(self):
        cell = Cell("a", None, [1])
        self.assertEqual((cell.answer, cell.row, cell.column), ("a", None, [1]))
        self.assertFalse(Cell(0, 0, 0) == Cell(0, 0, 0))


if __name__ == "__main__":
    unittest.main()
