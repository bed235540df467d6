"""Promises 6.06, 6.16, 6.18: edits, programs carried along, goals, mends and spoilers [10.5] to [10.7]."""

import itertools
import unittest

from drawnblocks import drawn_kinds
from drawnprograms import idle_product, tables_of, with_more
from helpers import all_figures, drawer, drawn_invertible, drawn_number, drawn_pair, most_sides, numbers, pair, raised
from secondway import number_by_ranks
from sparedproducts.blocks import square_pair
from sparedproducts.counts import changed_pair, fewest_of
from sparedproducts.errors import BadEdit, NotRight
from sparedproducts.figures import Figures
from sparedproducts.making import least_program, plain_program
from sparedproducts.mends import carried_program, edited_pair, find_mends, find_spoilers, goal_met
from sparedproducts.pairs import Pair, zero_pair
from sparedproducts.programs import Program, is_right
from sparedproducts.separate import separate_points, separate_program
from sparedproducts.twins import only_one, twin_program
from test_filters import not_numbers

WORDS = ("number", "drop row", "drop column", "mix", "beside")
NO_PLACES = (-1, True, False, None, "0", 0.0, (0,), 10 ** 20)


def drawn_edit(given, draw, word=None):
    """An edit that fits the pair, of any word for which there is one."""
    figures = given.figures
    while True:
        made = word or draw.choice(WORDS)
        if made == "number":
            return (made, draw.randrange(2), draw.randrange(given.rows), draw.randrange(given.columns),
                    drawn_number(figures, draw))
        if made == "drop row" and given.rows > 1:
            return made, draw.randrange(given.rows)
        if made == "drop column" and given.columns > 1:
            return made, draw.randrange(given.columns)
        if made == "mix":
            return made, drawn_invertible(figures, draw, 2)
        room = most_sides(figures) - max(given.rows, given.columns)
        if made == "beside" and room:
            return made, drawn_pair(figures, draw, draw.randint(1, room), draw.randint(1, room), 0.7)
        if word:
            return None


def edited_by_hand(given, edit):
    """One edit, by cells alone."""
    figures, tables = given.figures, [given.first, given.second]
    word = edit[0]
    if word == "number":
        _, answer, row, column, number = edit
        tables[answer] = tuple(tuple(number if (i, j) == (row, column) else cell for j, cell in enumerate(line))
                               for i, line in enumerate(tables[answer]))
    elif word == "drop row":
        tables = [table[:edit[1]] + table[edit[1] + 1:] for table in tables]
    elif word == "drop column":
        tables = [[line[:edit[1]] + line[edit[1] + 1:] for line in table] for table in tables]
    elif word == "mix":
        tables = [[[figures.plus(figures.times(one, a), figures.times(other, b)) for a, b in zip(*lines)]
                   for lines in zip(*tables)] for one, other in edit[1]]
    else:
        both = zip(tables, (edit[1].first, edit[1].second))
        tables = [[line + (figures.zero,) * edit[1].columns for line in one]
                  + [(figures.zero,) * given.columns + line for line in other] for one, other in both]
    return Pair(figures, tables[0], tables[1])


def no_kinds():
    return [None, (), [], "number", 3, {}, ("number",), ("number", 0, 0, 0), ("number", 0, 0, 0, 0, 0), ("drop row",),
            ("drop row", 0, 0), ("drop column", 0, 0), ("mix",), ("mix", 0, 0), ("beside",), ("beside", 0, 0), ("drop", 0),
            (None, 0), (("mix",), 0), ("Mix", 0), (0, 0), (["beside"], 0), ("edit", 0, 0, 0, 0)]


def bad_edits(given):
    """Couples of an edit that does not fit the pair and the word that is told."""
    figures = given.figures
    zero, one, most = figures.zero, figures.one, most_sides(figures)
    unit = ((one, zero), (zero, one))
    alien = zero_pair(Figures(7 if figures.prime != 7 else 0), 1, 1)
    cases = [(edit, "kind") for edit in no_kinds()]
    cases += [(("number", answer, None, None, None), "answer") for answer in (2,) + NO_PLACES]
    cases += [(("number", 1, row, None, None), "row") for row in (given.rows,) + NO_PLACES]
    cases += [(("number", 0, 0, column, None), "column") for column in (given.columns,) + NO_PLACES]
    cases += [(["number", 1, 0, 0, thing], "number") for thing in not_numbers(figures)]
    cases += [(("drop row", row), "row") for row in (given.rows,) + NO_PLACES]
    cases += [(["drop column", column], "column") for column in (given.columns,) + NO_PLACES]
    cases += [(("mix", thing), "table") for thing in (None, 3, (), unit[0], (unit[0],), unit + ((zero, one),),
                                                      ((one,), (one,)), ((one, True), (zero, one)), ((one, one), (one, one)),
                                                      ((zero, zero), (zero, one)), (unit[0], None))]
    cases += [(("beside", thing), "pair") for thing in (None, 3, (given,), alien, plain_program(given), "pair")]
    cases += [(("beside", zero_pair(figures, most, 1)), "size"), (("beside", zero_pair(figures, 1, most)), "size")]
    return cases


def right_programs(given, draw):
    figures = given.figures
    made = [least_program(given).program, plain_program(given), separate_program(given, *separate_points(given))]
    made.append(with_more(made[0], idle_product(figures, given.rows, given.columns)))
    made += [program for program in (twin_program(given),) if program is not None]
    extra = tuple(drawn_number(figures, draw) for _ in range(given.rows))
    ones = (figures.one,) * given.columns
    less = (extra, ones, figures.one, figures.zero), (extra, ones, figures.negative(figures.one), figures.zero)
    return made + [with_more(made[0], *less)]


class EditTest(unittest.TestCase):

    def test_one_edit_of_each_word(self):
        draw = drawer(441)
        for figures in all_figures():
            for _ in range(10):
                given = drawn_pair(figures, draw, draw.randint(1, most_sides(figures)), draw.randint(1, most_sides(figures)))
                for word in WORDS:
                    edit = drawn_edit(given, draw, word)
                    if edit is not None:
                        due = edited_by_hand(given, edit)
                        self.assertEqual(edited_pair(given, (edit,)), due)
                        self.assertEqual(edited_pair(given, [list(edit)]), due)

    def test_one_behind_another(self):
        draw = drawer(442)
        for figures in all_figures():
            for many in (0, 1, 2, 5, 12):
                given = due = drawn_pair(figures, draw, 1, min(2, most_sides(figures)))
                edits = []
                for _ in range(many):
                    edits.append(drawn_edit(due, draw))
                    due = edited_by_hand(due, edits[-1])
                self.assertEqual(edited_pair(given, edits), due)
                self.assertEqual(edited_pair(given, tuple(edits)), due)

    def test_known_uses(self):
        draw = drawer(443)
        for figures, _, given in drawn_kinds(444, 3):
            mix = drawn_invertible(figures, draw, 2)
            self.assertEqual(edited_pair(given, [("mix", mix)]), given.mixed(mix))
            edit = drawn_edit(given, draw, "number")
            self.assertEqual(edited_pair(given, [edit]), changed_pair(given, *edit[1:]))
            other = zero_pair(figures, 1, 1)
            if max(given.rows, given.columns) < most_sides(figures):
                self.assertEqual(edited_pair(given, [("beside", other)]), given.beside(other))
                edits = [("beside", other), ("drop row", given.rows), ("drop column", given.columns)]
                self.assertEqual(edited_pair(given, edits), given)

    def test_refusals(self):
        draw = drawer(445)
        for figures in all_figures():
            for rows, columns in ((1, 1), (2, 1), (1, 2), (2, 2)):
                given = drawn_pair(figures, draw, rows, columns)
                good = ("number", 0, 0, 0, figures.zero)
                for edit, word in bad_edits(given):
                    self.assertEqual(raised(edited_pair, given, [edit]), ("BadEdit", (0, word)))
                    self.assertEqual(raised(edited_pair, given, (edit, None)), ("BadEdit", (0, word)))
                    self.assertEqual(raised(edited_pair, given, [good, good, edit, None]), ("BadEdit", (2, word)))
                for edits in (None, 3, "abc", {}, (None,) * 13, [good] * 13):
                    self.assertEqual(raised(edited_pair, given, edits), ("BadEdit", (0, "many")))
                self.assertEqual(edited_pair(given, ()), given)
                self.assertIsNone(raised(edited_pair, given, [good] * 12))
                if rows == 1:
                    self.assertEqual(raised(edited_pair, given, [("drop row", 0)]), ("BadEdit", (0, "row")))
                if columns == 1:
                    self.assertEqual(raised(edited_pair, given, [("drop column", 0)]), ("BadEdit", (0, "column")))

    def test_edits_refer_to_the_pair_behind_the_earlier_ones(self):
        for figures in all_figures():
            given = zero_pair(figures, 2, 2)
            one = ("number", 0, 1, 1, figures.one)
            self.assertEqual(raised(edited_pair, given, [("drop row", 0), one]), ("BadEdit", (1, "row")))
            self.assertEqual(raised(edited_pair, given, [one, ("drop column", 0), one]), ("BadEdit", (2, "column")))
            self.assertEqual(raised(edited_pair, given, [("drop row", 0), ("drop row", 0)]), ("BadEdit", (1, "row")))
            most = most_sides(figures)
            many = [("beside", zero_pair(figures, 1, 1))] * (most - 1)
            self.assertEqual(raised(edited_pair, given, many), ("BadEdit", (most - 2, "size")))


class CarriedTest(unittest.TestCase):

    def carried_by_hand(self, program, given, edit):
        figures = given.figures
        word = edit[0]
        if word == "number":
            _, answer, row, column, number = edit
            old = (given.first, given.second)[answer][row][column]
            if old == number:
                return program.products
            more = [figures.zero, figures.zero]
            more[answer] = figures.minus(number, old)
            u, v = [tuple(figures.one if at == place else figures.zero for at in range(many))
                    for place, many in ((row, given.rows), (column, given.columns))]
            return program.products + ((u, v) + tuple(more),)
        if word == "drop row":
            return tuple((u[:edit[1]] + u[edit[1] + 1:], v, c, d) for u, v, c, d in program)
        if word == "drop column":
            return tuple((u, v[:edit[1]] + v[edit[1] + 1:], c, d) for u, v, c, d in program)
        if word == "mix":
            return program.mixed(edit[1]).products
        rows, columns = (figures.zero,) * given.rows, (figures.zero,) * given.columns
        other = edit[1]
        return (tuple((u + (figures.zero,) * other.rows, v + (figures.zero,) * other.columns, c, d)
                      for u, v, c, d in program)
                + tuple((rows + u, columns + v, c, d) for u, v, c, d in least_program(other).program))

    def test_every_right_program(self):
        draw = drawer(446)
        for figures, _, given in drawn_kinds(447, 4):
            for program in right_programs(given, draw):
                for word in WORDS:
                    edit = drawn_edit(given, draw, word)
                    if edit is None or len(program) > 24:
                        continue
                    made = carried_program(program, given, edit)
                    self.assertEqual(made.products, self.carried_by_hand(program, given, edit))
                    behind = edited_by_hand(given, edit)
                    self.assertEqual((made.rows, made.columns), (behind.rows, behind.columns))
                    self.assertTrue(is_right(behind, made))
                    self.assertEqual(tables_of(figures, made.rows, made.columns, made), [behind.first, behind.second])
                    self.assertGreaterEqual(len(made), len(program))
                    self.assertEqual(carried_program(program, given, list(edit)), made)

    def test_the_same_number_changes_nothing(self):
        for figures, _, given in drawn_kinds(448, 2):
            program = least_program(given).program
            for answer, table in enumerate((given.first, given.second)):
                self.assertEqual(carried_program(program, given, ("number", answer, 0, 0, table[0][0])), program)

    def test_products_that_then_do_nothing_stay(self):
        for figures in all_figures():
            given = pair(figures, ((1, 0), (0, 0)), ((0, 0), (0, 1)))
            made = carried_program(plain_program(given), given, ("drop row", 0))
            self.assertEqual((len(made), made.rows), (2, 1))

    def test_wrong_programs_are_told_with_the_first_cell(self):
        draw = drawer(449)
        for figures, _, given in drawn_kinds(450, 4):
            program = least_program(given).program
            answer, row, column = draw.randrange(2), draw.randrange(given.rows), draw.randrange(given.columns)
            table = (given.first, given.second)[answer]
            other = changed_pair(given, answer, row, column, figures.plus(table[row][column], figures.one))
            for edit in (drawn_edit(given, draw), None, ("mix", None), ("beside", 0)):
                with self.assertRaises(NotRight) as caught:
                    carried_program(program, other, edit)
                cell = caught.exception.cell
                self.assertEqual((cell.answer, cell.row, cell.column), (answer, row, column))
            wrong = [Program(figures, given.rows % most_sides(figures) + 1, given.columns, ()),
                     Program(figures, given.rows, given.columns % most_sides(figures) + 1, ()),
                     Program(Figures(7 if figures.prime != 7 else 0), given.rows, given.columns, ())]
            for program in wrong:
                for edit in (drawn_edit(given, draw), None):
                    self.assertEqual(raised(carried_program, program, given, edit), ("NotRight", (None,)))

    def test_refusals_in_their_order(self):
        draw = drawer(451)
        for figures in all_figures():
            for rows, columns in ((1, 1), (2, 2)):
                given = drawn_pair(figures, draw, rows, columns)
                least = least_program(given).program
                full = with_more(least, *[idle_product(figures, rows, columns)] * (30 - len(least)))
                for program in (least, full):
                    for edit, word in bad_edits(given):
                        self.assertEqual(raised(carried_program, program, given, edit), ("BadEdit", (0, word)))
                number = figures.plus(given.first[0][0], figures.one)
                edit = ("number", 0, 0, 0, number)
                self.assertEqual(raised(carried_program, full, given, edit), ("BadProgram", (0, "many")))
                self.assertIsNone(raised(carried_program, full, given, ("number", 0, 0, 0, given.first[0][0])))
                less = with_more(least, *[idle_product(figures, rows, columns)] * (29 - len(least)))
                self.assertEqual(len(carried_program(less, given, edit)), 30)
                self.assertIsNone(raised(carried_program, full, given, drawn_edit(given, draw, "mix")))
                if most_sides(figures) > rows:
                    one = pair(figures, ((1,),), ((0,),))
                    self.assertEqual(raised(carried_program, full, given, ("beside", one)), ("BadProgram", (0, "many")))
                    self.assertIsNone(raised(carried_program, full, given, ("beside", zero_pair(figures, 1, 1))))


def no_goals(given):
    program = least_program(given).program
    return [None, (), [], "one only", 3, {}, ("one only", 1), ("at most",), ("at most", -1), ("at most", True),
            ("at most", None), ("at most", 1.0), ("at most", "1"), ("at most", (1,)), ("at most", 1, 1), ("right",),
            ("right", None), ("right", given), ("right", program, 1), (None,), ("only one",), ("At most", 1), (1, 1),
            (("one only",),), (["at most"], 1), ("right", program.products), program, ("at least", 1), ("wrong", program), (None, program)]


def met_by_hand(given, goal):
    if goal[0] == "at most":
        return number_by_ranks(given) <= goal[1]
    if goal[0] == "one only":
        return only_one(given)
    program = goal[1]
    same = (given.figures, given.rows, given.columns) == (program.figures, program.rows, program.columns)
    return same and tables_of(given.figures, given.rows, given.columns, program) == [given.first, given.second]


class GoalTest(unittest.TestCase):

    def test_each_kind(self):
        draw = drawer(452)
        met = set()
        for figures, _, given in drawn_kinds(453, 5):
            number = fewest_of(given).number
            wrong = [Program(figures, given.rows, given.columns, ()), Program(figures, 1, 1, ()),
                     Program(Figures(7 if figures.prime != 7 else 0), 1, 1, ())]
            goals = [("at most", many) for many in (0, number - 1, number, number + 1, 10 ** 30) if many >= 0]
            goals += [("one only",)] + [("right", program) for program in wrong + right_programs(given, draw)]
            for goal in goals:
                made = goal_met(given, goal)
                self.assertIs(made, met_by_hand(given, goal))
                self.assertIs(goal_met(given, list(goal)), made)
                met.add((goal[0], made))
        self.assertEqual(met, {(word, made) for word in ("at most", "one only", "right") for made in (True, False)})

    def test_refusals(self):
        for figures in all_figures():
            given = zero_pair(figures, 1, 1)
            for goal in no_goals(given):
                self.assertEqual(raised(goal_met, given, goal), ("BadGoal", (0,)))


class MendTest(unittest.TestCase):

    def lots_by_hand(self, given, edits, goals, due):
        """All lots, by trial of all of them."""
        for many in range(len(edits) + 1):
            found = []
            for lot in itertools.combinations(range(len(edits)), many):
                try:
                    made = edited_pair(given, [edits[place] for place in lot])
                except BadEdit:
                    continue
                if all(met_by_hand(made, goal) for goal in goals) == due:
                    found.append(lot)
            if found:
                return tuple(found)
        return ()

    def judge(self, given, edits, goals):
        mends, spoilers = find_mends(given, edits, goals), find_spoilers(given, edits, goals)
        self.assertEqual(mends, self.lots_by_hand(given, edits, goals, True))
        self.assertEqual(spoilers, self.lots_by_hand(given, edits, goals, False))
        for made in (mends, spoilers):
            self.assertIs(type(made), tuple)
            self.assertTrue(all(type(lot) is tuple for lot in made))
        # Met already and not met already: one of the two needs no edit.
        self.assertTrue((mends == ((),)) != (spoilers == ((),)))
        return mends, spoilers

    def drawn_goals(self, given, edits, draw):
        number = fewest_of(given).number
        goals = [("at most", max(0, number + draw.choice((-2, -1, -1, 0)))), ("one only",)]
        try:
            many = draw.randint(1, len(edits))
            behind = edited_pair(given, [edits[place] for place in sorted(draw.sample(range(len(edits)), many))])
            goals.append(("right", least_program(behind).program))
        except BadEdit:
            pass
        return draw.sample(goals, draw.randint(1, len(goals)))

    def test_drawn_edits_and_goals(self):
        draw = drawer(454)
        sizes = set()
        for figures in all_figures():
            for _ in range(9):
                most = min(3, most_sides(figures))
                given = drawn_pair(figures, draw, draw.randint(1, most), draw.randint(1, most), 0.6)
                edits = [drawn_edit(given, draw) for _ in range(draw.randint(1, 5))]
                if draw.random() < 0.4:
                    edits[draw.randrange(len(edits))] = draw.choice(no_kinds())
                for made in self.judge(given, edits, self.drawn_goals(given, edits, draw)):
                    sizes.add(len(made[0]) if made else None)
        self.assertLessEqual({0, 1, 2, None}, sizes)

    def test_only_smallest_lots_and_all_of_them(self):
        for figures in all_figures():
            one, zero = figures.one, figures.zero
            given = pair(figures, ((1, 0), (0, 1)), ((0, 0), (0, 0)))
            edits = [("number", 0, 0, 0, zero), ("number", 0, 1, 1, zero), ("drop row", 0), ("drop column", 1),
                     ("number", 1, 1, 1, one), ("mix", ((zero, one), (one, zero)))]
            self.assertEqual(self.judge(given, edits, [("at most", 1)])[0], ((0,), (1,), (2,), (3,)))
            self.assertEqual(self.judge(given, edits, [("at most", 0)])[0], ((0, 1), (0, 3), (1, 2), (2, 3)))
            self.assertEqual(self.judge(given, edits, [("at most", 2)])[0], ((),))
            self.assertEqual(self.judge(given, edits[4:], [("at most", 1)])[0], ())
            # One product alone is the only program; two like ones are not.
            self.assertIs(only_one(given), False)
            self.assertEqual(self.judge(given, edits, [("one only",)])[0], ((0,), (1,), (2,), (3,), (4,)))

    def test_edits_that_do_not_fit_behind_others(self):
        for figures in all_figures():
            given = pair(figures, ((1, 0), (0, 1)), ((0, 0), (0, 0)))
            edits = (("drop row", 1), ("drop row", 1), ("drop column", 1), None, ("mix", None))
            self.assertEqual(self.judge(given, edits, [("at most", 0)])[0], ())
            self.assertEqual(self.judge(given, edits, [("at most", 1)])[0], ((0,), (1,), (2,)))
            wrong = [None] * 6
            self.assertEqual(self.judge(given, wrong, [("at most", 1)]), ((), ((),)))
            self.assertEqual(self.judge(given, wrong, [("at most", 2)]), (((),), ()))

    def test_the_order_of_the_edits_is_theirs(self):
        # The mix behind the number is another pair than the number behind the mix.
        for figures in all_figures():
            zero, one = figures.zero, figures.one
            given = zero_pair(figures, 1, 1)
            edits = [("number", 0, 0, 0, one), ("mix", ((zero, one), (one, zero))), ("number", 0, 0, 0, one)]
            first = ("right", Program(figures, 1, 1, [((one,), (one,), one, zero)]))
            second = ("right", Program(figures, 1, 1, [((one,), (one,), zero, one)]))
            both = ("right", Program(figures, 1, 1, [((one,), (one,), one, one)]))
            self.assertEqual(self.judge(given, edits, [first])[0], ((0,), (2,)))
            self.assertEqual(self.judge(given, edits, [second])[0], ((0, 1),))
            self.assertEqual(self.judge(given, edits, [both])[0], ((0, 1, 2),))
            self.assertEqual(self.judge(given, edits, [first, second])[0], ())
            self.assertEqual(self.judge(given, edits, [("at most", 0), first])[1], ((),))

    def test_complex_numbers(self):
        figures = Figures(0)
        given = square_pair(figures, numbers(figures, (1, 0, 1)))
        edits = [("number", 1, 0, 1, (1, 1)), ("number", 1, 1, 0, (0, 1)), ("mix", ((0, 1), (1, 1))),
                 ("number", 0, 0, 0, (0, 1))]
        mends, spoilers = self.judge(given, edits, [("at most", 2)])
        self.assertEqual((mends[0], spoilers), ((0,), ((),)))
        mends, spoilers = self.judge(given, edits, [("at most", 3)])
        self.assertEqual((mends, spoilers), (((),), ()))

    def test_refusals_in_their_order(self):
        for figures in all_figures():
            given = zero_pair(figures, 1, 1)
            good = ("at most", 1)
            for deed in (find_mends, find_spoilers):
                for edits in (None, (), [], "abc", 3, {}, (None,) * 7):
                    self.assertEqual(raised(deed, given, edits, None), ("BadEdit", (0, "many")))
                    self.assertEqual(raised(deed, given, edits, [good]), ("BadEdit", (0, "many")))
                for goals in (None, (), [], "ab", 3, {}, (good,) * 5, (None,) * 5):
                    self.assertEqual(raised(deed, given, [None], goals), ("BadGoal", (0,)))
                for goal in no_goals(given):
                    self.assertEqual(raised(deed, given, [None] * 6, [goal]), ("BadGoal", (0,)))
                    self.assertEqual(raised(deed, given, [None], (good, ["one only"], goal, None)), ("BadGoal", (2,)))
                self.assertIsNone(raised(deed, given, [None] * 6, (good,) * 4))


if __name__ == "__main__":
    unittest.main()
