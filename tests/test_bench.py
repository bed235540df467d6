"""Promises 6.06, 6.13: the bench, deed by deed, and trials on it [10.7], [10.8]."""

import unittest

from drawnblocks import drawn_kinds
from drawnprograms import idle_product, with_more
from helpers import all_figures, drawer, drawn_pair, most_sides, pair, raised
from secondway import number_by_ranks
from sparedproducts.bench import Bench, Tried
from sparedproducts.counts import changed_pair, fewest_of
from sparedproducts.errors import NotRight
from sparedproducts.figures import Figures
from sparedproducts.making import least_program, plain_program
from sparedproducts.mends import carried_program, edited_pair, goal_met
from sparedproducts.pairs import zero_pair
from sparedproducts.programs import Program, is_right
from test_mends import WORDS, bad_edits, drawn_edit, no_goals, no_kinds, right_programs


class BenchTest(unittest.TestCase):

    def look(self, bench, given, program, log):
        """What a bench shows, and that it holds together."""
        self.assertEqual(bench.present, given)
        self.assertEqual(bench.program, program)
        self.assertEqual((bench.log, type(bench.log), len(bench)), (tuple(log), tuple, len(log)))
        self.assertTrue(is_right(given, program))
        slack = bench.slack()
        self.assertEqual(slack, len(program) - number_by_ranks(given))
        self.assertGreaterEqual(slack, 0)

    def refusals(self, bench):
        """Each refused deed leaves all as it was."""
        given, program, log = bench.present, bench.program, bench.log
        for edit, word in bad_edits(given):
            self.assertEqual(raised(bench.do_edit, edit), ("BadEdit", (0, word)))
        figures = given.figures
        alien = Program(Figures(7 if figures.prime != 7 else 0), 1, 1, ())
        size = Program(figures, given.rows, given.columns % most_sides(figures) + 1, ())
        for other in (alien, size):
            self.assertEqual(raised(bench.put_in, other), ("NotRight", (None,)))
        table = given.first
        row, column = given.rows - 1, given.columns - 1
        other = changed_pair(given, 0, row, column, figures.plus(table[row][column], figures.one))
        with self.assertRaises(NotRight) as caught:
            bench.put_in(plain_program(other))
        cell = caught.exception.cell
        self.assertEqual((cell.answer, cell.row, cell.column), (0, row, column))
        self.look(bench, given, program, log)

    def test_deed_by_deed(self):
        draw = drawer(461)
        for figures in all_figures():
            for _ in range(3):
                given = drawn_pair(figures, draw, draw.randint(1, most_sides(figures)), draw.randint(1, most_sides(figures)))
                bench = Bench(given)
                program = least_program(given).program
                log, past = [], []
                self.look(bench, given, program, log)
                for _ in range(14):
                    deed = draw.choice(WORDS + ("put in", "freshen", "take back", "take back"))
                    edit = drawn_edit(given, draw, deed) if deed in WORDS else None
                    before = (given, program)
                    if edit is not None:
                        self.assertIsNone(bench.do_edit(draw.choice((edit, list(edit)))))
                        given, program = edited_pair(given, [edit]), carried_program(program, given, edit)
                    elif deed == "put in":
                        program = draw.choice([other for other in right_programs(given, draw) if len(other) < 24])
                        self.assertIsNone(bench.put_in(program))
                    elif deed == "freshen":
                        self.assertIsNone(bench.freshen())
                        program = least_program(given).program
                    elif deed == "take back" and log:
                        self.assertIsNone(bench.take_back())
                        given, program = past.pop()
                        log.pop()
                        self.look(bench, given, program, log)
                        continue
                    else:
                        continue
                    past.append(before)
                    log.append(deed)
                    self.look(bench, given, program, log)
                self.refusals(bench)
                while log:
                    bench.take_back()
                    given, program = past.pop()
                    log.pop()
                    self.look(bench, given, program, log)
                self.assertEqual(raised(bench.take_back), ("NothingDone", ()))
                self.look(bench, given, program, log)

    def test_each_deed_is_taken_back(self):
        draw = drawer(462)
        for figures, _, given in drawn_kinds(463, 2):
            bench = Bench(given)
            start = bench.program
            self.assertEqual(start, least_program(given).program)
            other = with_more(start, idle_product(figures, given.rows, given.columns))
            deeds = [(bench.put_in, (other,), "put in"), (bench.freshen, (), "freshen")]
            deeds += [(bench.do_edit, (edit,), edit[0]) for edit in (drawn_edit(given, draw, word) for word in WORDS) if edit]
            for deed, arguments, word in deeds:
                self.assertIsNone(deed(*arguments))
                self.assertEqual((bench.log, len(bench)), ((word,), 1))
                self.assertIsNone(bench.take_back())
                self.look(bench, given, start, ())

    def test_freshening_a_fresh_bench_is_a_deed(self):
        for figures in all_figures():
            bench = Bench(zero_pair(figures, 1, 2))
            bench.freshen()
            bench.freshen()
            self.assertEqual((bench.log, bench.slack()), (("freshen", "freshen"), 0))
            bench.take_back()
            self.assertEqual(bench.log, ("freshen",))

    def test_a_number_that_stays_is_a_deed(self):
        for figures in all_figures():
            given = pair(figures, ((1,),), ((0,),))
            bench = Bench(given)
            bench.do_edit(("number", 0, 0, 0, figures.one))
            self.look(bench, given, least_program(given).program, ("number",))

    def test_too_many_products(self):
        # A carried program of more than 30 products gives way to the least one of the new pair.
        for figures in all_figures():
            given = pair(figures, ((1, 0), (0, 1)), ((0, 0), (0, 1)))
            full = with_more(plain_program(given), *[idle_product(figures, 2, 2)] * 28)
            bench = Bench(given)
            bench.put_in(full)
            self.look(bench, given, full, ("put in",))
            edit = ("number", 1, 0, 0, figures.one)
            bench.do_edit(edit)
            made = edited_pair(given, [edit])
            self.look(bench, made, least_program(made).program, ("put in", "number"))
            bench.take_back()
            self.look(bench, given, full, ("put in",))
            bench.do_edit(("number", 1, 0, 0, figures.zero))
            self.look(bench, given, full, ("put in", "number"))
            if most_sides(figures) > 2:
                edit = ("beside", pair(figures, ((1,),), ((1,),)))
                bench.do_edit(edit)
                made = edited_pair(given, [edit])
                self.look(bench, made, least_program(made).program, ("put in", "number", "beside"))

    def test_numbers_until_it_is_full(self):
        figures = Figures(0)
        given = zero_pair(figures, 1, 1)
        bench = Bench(given)
        for many in range(1, 31):
            bench.do_edit(("number", 0, 0, 0, (many, 1)))
            self.assertEqual(len(bench.program), many)
        bench.do_edit(("number", 0, 0, 0, (31, 1)))
        self.assertEqual((len(bench.program), bench.slack(), len(bench)), (1, 0, 31))
        for _ in range(31):
            bench.take_back()
        self.look(bench, given, Program(figures, 1, 1, ()), ())

    def test_example(self):
        figures = Figures(5)
        bench = Bench(pair(figures, ((1,),), ((0,),)))
        self.assertEqual(len(bench.program), 1)
        bench.do_edit(("number", 1, 0, 0, 3))
        self.assertEqual(bench.program.products[1], ((1,), (1,), 0, 3))
        self.assertEqual((fewest_of(bench.present).number, bench.slack()), (1, 1))
        bench.freshen()
        self.assertEqual((bench.slack(), bench.log), (0, ("number", "freshen")))

    def test_two_benches_do_not_meet(self):
        figures = Figures(3)
        given = zero_pair(figures, 1, 1)
        one, other = Bench(given), Bench(given)
        one.do_edit(("number", 0, 0, 0, 1))
        self.assertEqual((len(one), len(other), other.present, given), (1, 0, given, zero_pair(figures, 1, 1)))
        self.assertFalse(one == Bench(one.present))


class TrialTest(unittest.TestCase):

    def test_trials_change_nothing(self):
        draw = drawer(464)
        for figures, _, given in drawn_kinds(465, 3):
            bench = Bench(given)
            bench.freshen()
            program = bench.program
            behind, edits = given, []
            for many in range(4):
                number = number_by_ranks(behind)
                goals = [None, ("at most", number), ("at most", max(0, number - 1)), ["one only"],
                         ("right", least_program(behind).program), ("right", program)]
                for goal in goals:
                    made = bench.trial(draw.choice((edits, tuple(edits))), goal=goal)
                    self.assertIsInstance(made, Tried)
                    self.assertEqual(made.number, number)
                    self.assertIs(made.met, None if goal is None else goal_met(behind, goal))
                made = bench.trial(edits)
                self.assertEqual((made.number, made.met), (number, None))
                self.assertEqual((bench.present, bench.program, bench.log), (given, program, ("freshen",)))
                edits.append(drawn_edit(behind, draw))
                behind = edited_pair(behind, edits[-1:])

    def test_refusals_in_their_order(self):
        for figures in all_figures():
            given = pair(figures, ((1, 1), (0, 1)), ((0, 1), (1, 1)))
            bench = Bench(given)
            for goal in (None, ("one only",), "no goal"):
                for edits in (None, 3, "abc", {}, (None,) * 13):
                    with self.assertRaises(ValueError) as caught:
                        bench.trial(edits, goal=goal)
                    self.assertEqual((caught.exception.index, caught.exception.what), (0, "many"))
                for edit in no_kinds():
                    with self.assertRaises(ValueError) as caught:
                        bench.trial([("drop row", 0), edit], goal=goal)
                    self.assertEqual((caught.exception.index, caught.exception.what), (1, "kind"))
            for goal in no_goals(given):
                if goal is not None:
                    self.assertEqual(raised(lambda told: bench.trial((), goal=told), goal), ("BadGoal", (0,)))
            with self.assertRaises(TypeError):
                bench.trial((), ("one only",))
            self.assertEqual((bench.present, len(bench)), (given, 0))

    def test_results_keep_what_they_are_given(self):
        made = Tried("a", [1])
        self.assertEqual((made.number, made.met), ("a", [1]))
        self.assertFalse(made == Tried("a", [1]))


if __name__ == "__main__":
    unittest.main()
