"""Promises 4.06, 4.17, 4.25: long rows by stretches, splits, filters one behind another [6.7] to [6.9]."""

import itertools
import unittest

from drawnprograms import drawn_program, drawn_row, idle_product, with_more
from helpers import all_figures, drawer, drawn_invertible, most_sides, raised
from sparedproducts.blocks import lying_pair, standing_pair
from sparedproducts.figures import Figures
from sparedproducts.filters import filter_pair, filter_program, plain_filter, plain_times, taps_apart
from sparedproducts.longrows import Long, Stretch, check_couples, filter_cascade, filter_stretches, run_filter, run_split
from sparedproducts.longrows import run_times, split_of
from sparedproducts.making import least_program, plain_program
from sparedproducts.programs import Program
from sparedproducts.solving import undone_table
from test_filters import not_numbers
from test_points import drawn_points


def right_programs(figures, draw, results):
    """Programs of several kinds that are right for the filter pair."""
    due = filter_pair(figures, results)
    made = [filter_program(figures, results), filter_program(figures, results, drawn_points(figures, draw, results + 1)),
            plain_program(due), least_program(due).program]
    made.append(with_more(made[0], idle_product(figures, results + 1, results)))
    # Led to another pair and back, mixed and mixed back, tidied, flipped and flipped back.
    left, right = drawn_invertible(figures, draw, results + 1), drawn_invertible(figures, draw, results)
    mix = drawn_invertible(figures, draw, 2)
    made.append(made[1].led(left, right).tidy().led(undone_table(figures, left), undone_table(figures, right)))
    made.append(made[1].mixed(mix).mixed(undone_table(figures, mix)))
    made.append(least_program(due.flipped()).program.flipped().tidy())
    return made


def wrong_programs(figures, draw, results):
    """Programs that are not right for the filter pair of their columns."""
    made = filter_program(figures, results)
    lying = least_program(lying_pair(figures, results)).program
    return [Program(figures, results + 1, results, made.products[1:]), Program(figures, results + 1, results, ()), lying,
            with_more(made, ((figures.one,) * (results + 1), (figures.one,) * results, figures.one, figures.zero)),
            Program(figures, results, results, ()), Program(figures, 1, 1, ())]


def bad_taps(figures):
    one = figures.one
    cases = [(None, 0), ("ab", 0), ((), 0), ((one,), 1), ((one,) * 3, 2), ({}, 0)]
    for thing in not_numbers(figures):
        cases += [((thing, one), 0), ([one, thing], 1)]
    return cases


def bad_rows(figures, low, high):
    one = figures.one
    cases = [(None, 0), ("abc", 0), ({}, 0), (3, 0), ((one,) * (low - 1), 0), ((one,) * (high + 1), 0)]
    for thing in not_numbers(figures):
        cases.append(((one,) * (low - 1) + (thing, thing), low - 1))
    return cases


class FilterTest(unittest.TestCase):

    def judge(self, figures, program, taps, row):
        made = run_filter(program, taps, row)
        self.assertIsInstance(made, Long)
        self.assertEqual(made.results, plain_filter(figures, taps, row))
        self.assertIs(type(made.results), tuple)
        many = program.columns
        stretches = -((1 - len(row)) // many)
        self.assertEqual(made.used, len(program) * stretches)
        found = list(filter_stretches(program, taps, row))
        self.assertEqual(len(found), stretches)
        filled = tuple(row) + (figures.zero,) * many
        for place, stretch in enumerate(found):
            self.assertIsInstance(stretch, Stretch)
            self.assertEqual(stretch.at, place * many)
            self.assertEqual(stretch.entries, filled[stretch.at:stretch.at + many + 1])
            self.assertEqual(stretch.results, made.results[stretch.at:stretch.at + many])
            self.assertIs(type(stretch.entries), tuple)
            self.assertIs(type(stretch.results), tuple)
        self.assertEqual(sum((stretch.results for stretch in found), ()), made.results)

    def test_rows_of_all_lengths(self):
        draw = drawer(231)
        for figures in all_figures():
            for results in range(1, most_sides(figures)):
                program = filter_program(figures, results)
                for many in list(range(2, 15)) + [59, 60]:
                    self.judge(figures, program, drawn_row(figures, draw, 2), drawn_row(figures, draw, many))

    def test_any_right_program(self):
        draw = drawer(232)
        for figures in all_figures():
            for results in range(1, most_sides(figures)):
                for program in right_programs(figures, draw, results):
                    self.judge(figures, program, list(drawn_row(figures, draw, 2)),
                               list(drawn_row(figures, draw, draw.randint(2, 20))))

    def test_example(self):
        figures = Figures(5)
        made = run_filter(filter_program(figures, 2), (1, 2), (1, 2, 3, 4))
        self.assertEqual((made.results, made.used), ((0, 3, 1), 6))
        found = list(filter_stretches(filter_program(figures, 2), (1, 2), (1, 2, 3, 4)))
        self.assertEqual([(one.at, one.entries, one.results) for one in found],
                         [(0, (1, 2, 3), (0, 3)), (2, (3, 4, 0), (1,))])

    def test_refusals_in_their_order(self):
        draw = drawer(233)

        def stretches(*arguments):
            return list(filter_stretches(*arguments))
        for figures in all_figures():
            good = filter_program(figures, 1)
            wrong = Program(figures, 1, 1, ())
            one = figures.one
            for deed in (run_filter, stretches):
                for program in (good, wrong):
                    for taps, index in bad_taps(figures):
                        for row in ((one,) * 3, None):
                            self.assertEqual(raised(deed, program, taps, row), ("BadLetters", ("taps", index)))
                    for row, index in bad_rows(figures, 2, 60):
                        self.assertEqual(raised(deed, program, (one, one), row), ("BadRow", ("row", index)))
                for results in range(1, most_sides(figures)):
                    for program in wrong_programs(figures, draw, results):
                        self.assertEqual(raised(deed, program, (one, one), (one,) * 3), ("NotSuch", ()))
                self.assertIsNone(raised(deed, good, [one, one], [one] * 60))

    def test_results_keep_what_they_are_given(self):
        made = Long("a", [1])
        self.assertEqual((made.results, made.used), ("a", [1]))
        made = Stretch("a", None, [1])
        self.assertEqual((made.at, made.entries, made.results), ("a", None, [1]))
        self.assertFalse(made == Stretch("a", None, [1]))


class TimesTest(unittest.TestCase):

    def judge(self, figures, program, taps, row):
        made = run_times(program, taps, row)
        self.assertIsInstance(made, Long)
        self.assertEqual(made.results, plain_times(figures, taps, row))
        self.assertIs(type(made.results), tuple)
        self.assertEqual(made.used, len(program) * -(-len(row) // program.columns))

    def test_numbers_of_all_lengths(self):
        draw = drawer(234)
        for figures in all_figures():
            for results in range(1, most_sides(figures)):
                program = filter_program(figures, results)
                for many in list(range(1, 14)) + [59, 60]:
                    self.judge(figures, program, drawn_row(figures, draw, 2), drawn_row(figures, draw, many))
                for program in right_programs(figures, draw, results):
                    self.judge(figures, program, list(drawn_row(figures, draw, 2)),
                               list(drawn_row(figures, draw, draw.randint(1, 20))))

    def test_refusals_in_their_order(self):
        draw = drawer(235)
        for figures in all_figures():
            one = figures.one
            good = filter_program(figures, 1)
            for program in (good, Program(figures, 1, 1, ())):
                for taps, index in bad_taps(figures):
                    self.assertEqual(raised(run_times, program, taps, None), ("BadLetters", ("taps", index)))
                for row, index in bad_rows(figures, 1, 60):
                    self.assertEqual(raised(run_times, program, (one, one), row), ("BadRow", ("numbers", index)))
            for results in range(1, most_sides(figures)):
                for program in wrong_programs(figures, draw, results):
                    self.assertEqual(raised(run_times, program, (one, one), (one,)), ("NotSuch", ()))


class SplitTest(unittest.TestCase):

    def test_sizes(self):
        for results in range(1, 61):
            for most in range(1, 5):
                sizes = split_of(results, most)
                self.assertIs(type(sizes), tuple)
                self.assertEqual(sizes, (most,) * (results // most) + ((results % most,) if results % most else ()))
        self.assertEqual(split_of(7, 3), (3, 3, 1))
        self.assertEqual(split_of(1, 4), (1,))

    def test_no_split_needs_fewer(self):
        for results in range(1, 11):
            for most in range(1, 5):
                least = min(sum(size + 1 for size in sizes)
                            for many in range(1, results + 1)
                            for sizes in itertools.combinations_with_replacement(range(1, most + 1), many)
                            if sum(sizes) == results)
                self.assertEqual(sum(size + 1 for size in split_of(results, most)), least)
                self.assertEqual(least, results + len(split_of(results, most)))

    def test_refusals_of_sizes(self):
        for thing in (0, -1, True, None, "3", 3.0, (3,), 10 ** 20):
            self.assertEqual(raised(split_of, thing, 2), ("BadSplit", ()))
            self.assertEqual(raised(split_of, 3, thing), ("BadSplit", ()))
        self.assertEqual(raised(split_of, 61, 2), ("BadSplit", ()))
        self.assertEqual(raised(split_of, 60, 5), ("BadSplit", ()))
        self.assertIsNone(raised(split_of, 60, 4))

    def test_runs(self):
        draw = drawer(236)
        for figures in all_figures():
            most = most_sides(figures) - 1
            for _ in range(12):
                sizes = [draw.randint(1, most) for _ in range(draw.randint(1, 9))]
                taps, row = drawn_row(figures, draw, 2), drawn_row(figures, draw, sum(sizes) + 1)
                made = run_split(figures, taps, row, sizes)
                self.assertIsInstance(made, Long)
                self.assertEqual(made.results, plain_filter(figures, taps, row))
                self.assertEqual(made.used, sum(sizes) + len(sizes))
                other = run_split(figures, list(taps), list(row), tuple(sizes[::-1]))
                self.assertEqual((other.results, other.used), (made.results, made.used))
            row = drawn_row(figures, draw, 60)
            made = run_split(figures, taps, row, split_of(59, most))
            self.assertEqual(made.results, plain_filter(figures, taps, row))
            self.assertEqual(made.used, 59 + len(split_of(59, most)))

    def test_refusals_of_runs(self):
        for figures in all_figures():
            one = figures.one
            most = most_sides(figures) - 1
            for taps, index in bad_taps(figures):
                self.assertEqual(raised(run_split, figures, taps, None, None), ("BadLetters", ("taps", index)))
            for row, index in bad_rows(figures, 2, 60):
                self.assertEqual(raised(run_split, figures, (one, one), row, None), ("BadRow", ("row", index)))
            for thing in (None, 3, "1", {}, (), (1, 0), (1, 1, -1), (1, True), (True,), ("1",), (1.0,), ((1,),), (1, None),
                          (1, 1), (most + 1,), (most + 1, 1)):
                row = (one,) * 2
                if thing in ((most + 1,), (most + 1, 1)):
                    row = (one,) * (sum(thing) + 1)
                self.assertEqual(raised(run_split, figures, (one, one), row, thing), ("BadSplit", ()))
            self.assertEqual(raised(run_split, figures, (one, one), (one,) * 4, (1, 1)), ("BadSplit", ()))
            self.assertIsNone(raised(run_split, figures, (one, one), (one,) * 4, (1, 1, 1)))
            self.assertIsNone(raised(run_split, figures, (one, one), (one,) * (most + 1), [most]))


class CascadeTest(unittest.TestCase):

    def due_used(self, program, row, couples):
        used, entries = 0, len(row)
        for _ in couples:
            used += len(program) * -((1 - entries) // program.columns)
            entries -= 1
        return used

    def test_any_order(self):
        draw = drawer(237)
        for figures in all_figures():
            for results in range(1, most_sides(figures)):
                for program in right_programs(figures, draw, results)[:4]:
                    couples = [drawn_row(figures, draw, 2) for _ in range(draw.randint(0, 4))]
                    row = drawn_row(figures, draw, draw.randint(len(couples) + 1, 14))
                    taps = (figures.one,)
                    for couple in couples:
                        taps = plain_times(figures, taps, couple)
                    due = plain_filter(figures, taps, row)
                    for order in itertools.islice(itertools.permutations(couples), 6):
                        made = filter_cascade(program, order, row)
                        self.assertIsInstance(made, Long)
                        self.assertEqual(made.results, due)
                        self.assertIs(type(made.results), tuple)
                        self.assertEqual(made.used, self.due_used(program, row, couples))

    def test_none_and_twelve(self):
        draw = drawer(238)
        for figures in all_figures():
            program = filter_program(figures, 1)
            for many in (1, 2, 60):
                row = drawn_row(figures, draw, many)
                made = filter_cascade(program, (), list(row))
                self.assertEqual((made.results, made.used), (row, 0))
                self.assertIs(type(made.results), tuple)
            couples = [drawn_row(figures, draw, 2) for _ in range(12)]
            taps = (figures.one,)
            for couple in couples:
                taps = plain_times(figures, taps, couple)
            row = drawn_row(figures, draw, 13)
            made = filter_cascade(program, couples, row)
            self.assertEqual(made.results, plain_filter(figures, taps, row))
            self.assertEqual(made.used, self.due_used(program, row, couples))

    def test_taps_that_come_apart(self):
        draw = drawer(239)
        for figures in all_figures():
            program = filter_program(figures, most_sides(figures) - 1)
            for _ in range(10):
                taps = drawn_row(figures, draw, draw.randint(2, 6))
                couples = taps_apart(figures, taps)
                if couples is not None:
                    row = drawn_row(figures, draw, draw.randint(len(taps), 20))
                    self.assertEqual(filter_cascade(program, couples, row).results, plain_filter(figures, taps, row))

    def test_checked_couples(self):
        draw = drawer(240)
        for figures in all_figures():
            one = figures.one
            couples = tuple(drawn_row(figures, draw, 2) for _ in range(12))
            self.assertEqual(check_couples(figures, [list(couple) for couple in couples]), couples)
            self.assertEqual(check_couples(figures, []), ())
            for thing in (None, 3, "ab", {}, couples + ((one, one),), (None,) * 13):
                self.assertEqual(raised(check_couples, figures, thing), ("BadTaps", (0,)))
            wrong = [None, 3, "ab", (), (one,), (one,) * 3, {}] + [(one, thing) for thing in not_numbers(figures)]
            wrong += [[thing, one] for thing in not_numbers(figures)]
            for thing in wrong:
                self.assertEqual(raised(check_couples, figures, couples[:2] + (thing, None)), ("BadTaps", (2,)))

    def test_refusals_in_their_order(self):
        draw = drawer(241)
        for figures in all_figures():
            one = figures.one
            good = filter_program(figures, 1)
            for program in (good, Program(figures, 1, 1, ())):
                for thing, index in ((None, 0), ([None], 0), ([(one, one), (one,)], 1), ([(one, one)] * 13, 0)):
                    self.assertEqual(raised(filter_cascade, program, thing, None), ("BadTaps", (index,)))
                for many in (0, 1, 3, 12):
                    for row, index in bad_rows(figures, many + 1, 60):
                        self.assertEqual(raised(filter_cascade, program, [(one, one)] * many, row),
                                         ("BadRow", ("row", index)))
            for results in range(1, most_sides(figures)):
                for program in wrong_programs(figures, draw, results):
                    for many in (0, 2):
                        self.assertEqual(raised(filter_cascade, program, [(one, one)] * many, (one,) * 3),
                                         ("NotSuch", ()))

    def test_programs_led_elsewhere_do_not_serve(self):
        draw = drawer(242)
        for figures in all_figures():
            for _ in range(4):
                program = drawn_program(figures, draw, 2, 1, 3)
                due = None if program.pair() == standing_pair(figures, 1) else ("NotSuch", ())
                self.assertEqual(raised(run_filter, program, (figures.one,) * 2, (figures.one,) * 2), due)


if __name__ == "__main__":
    unittest.main()
