"""Promises 6.05, 6.15, 6.18: codes, what they answer, codes and programs, thinned codes [10.1] to [10.4]."""

import itertools
import unittest

from drawnprograms import any_program, drawn_program, drawn_row, idle_product, with_more
from helpers import all_figures, drawer, drawn_number, most_sides, numbers, raised
from sparedproducts.codes import Code, Counted, code_of, code_pair, program_of, run_code, steps_counted, thinned_code
from sparedproducts.figures import Figures
from sparedproducts.pairs import zero_pair
from sparedproducts.programs import Program, is_right
from sparedproducts.twins import alike_programs
from test_filters import not_numbers
from test_rulerows import bad_letters
from test_twins import does

WORDS = ("sum", "less", "by", "product")


def drawn_code(figures, draw, many, rows=None, columns=None, words=WORDS):
    """A code of at most many steps of all words, some of them useless."""
    rows = rows or draw.randint(1, min(3, most_sides(figures)))
    columns = columns or draw.randint(1, min(3, most_sides(figures)))
    sides = ["left"] * rows + ["right"] * columns
    steps = []
    for _ in range(many):
        word = draw.choice(words)
        one, other = draw.randrange(len(sides)), draw.randrange(len(sides))
        if word == "by":
            steps.append(("by", one, drawn_number(figures, draw)))
        elif word == "product":
            one = draw.choice([at for at, side in enumerate(sides) if side == "left"])
            other = draw.choice([at for at, side in enumerate(sides) if side == "right"])
            steps.append(("product", one, other))
        else:
            alike = [at for at, side in enumerate(sides) if side == sides[one]]
            steps.append((word, one, draw.choice(alike)))
        sides.append("answer" if word == "product" else sides[one])
    answers = [at for at, side in enumerate(sides) if side == "answer"]
    told = [draw.choice(answers[-4:]) if answers and draw.random() < 0.85 else None for _ in range(2)]
    return Code(figures, rows, columns, steps, told)


def values_by_hand(code, left, right):
    """All values for numbers of the letters, one after another."""
    figures = code.figures
    values = list(left) + list(right)
    for word, one, other in code.steps:
        if word == "sum":
            values.append(figures.plus(values[one], values[other]))
        elif word == "less":
            values.append(figures.minus(values[one], values[other]))
        elif word == "by":
            values.append(figures.times(values[one], other))
        else:
            values.append(figures.times(values[one], values[other]))
    return values


def sides_of(code):
    sides = ["left"] * code.rows + ["right"] * code.columns
    for word, one, _ in code.steps:
        sides.append("answer" if word == "product" else sides[one])
    return sides


def units(figures, many):
    return [tuple(figures.one if at == place else figures.zero for at in range(many)) for place in range(many)]


def told_for_all(code):
    """For each value what tells it for all letters: its numbers at enough letters."""
    figures = code.figures
    left, right = units(figures, code.rows), units(figures, code.columns)
    # A side's values are sums of its letters; an answer is told by one left letter with one right letter.
    return list(zip(*[values_by_hand(code, x, y) for x in left for y in right]))


class FormTest(unittest.TestCase):

    def test_attributes(self):
        figures = Figures(5)
        made = Code(figures, 1, 2, [["sum", 1, 2], ("product", 0, 3), ["by", 4, 3]], [5, None])
        self.assertEqual((made.figures, made.rows, made.columns), (figures, 1, 2))
        self.assertEqual(made.steps, (("sum", 1, 2), ("product", 0, 3), ("by", 4, 3)))
        self.assertEqual((made.told, len(made)), ((5, None), 3))
        self.assertEqual([type(step) for step in made.steps], [tuple] * 3)
        self.assertEqual((type(made.steps), type(made.told)), (tuple, tuple))
        empty = Code(figures, 1, 1, (), (None, None))
        self.assertEqual((len(empty), empty.steps), (0, ()))

    def test_equal_codes(self):
        figures = Figures(5)
        given = (figures, 2, 1, (("product", 0, 2),), (3, None))
        one = Code(*given)
        self.assertTrue(one == Code(Figures(5), 2, 1, [["product", 0, 2]], [3, None]))
        others = [(Figures(7),) + given[1:], (figures, 1, 2, (("product", 0, 2),), (3, None)),
                  given[:3] + ((("product", 1, 2),), (3, None)), given[:4] + ((None, 3),),
                  given[:3] + ((("product", 0, 2), ("by", 0, 1)), (3, None))]
        for other in others:
            self.assertFalse(one == Code(*other))
        sizes = [Code(figures, rows, columns, (), (None, None)) for rows, columns in ((1, 1), (1, 2), (2, 1), (2, 2))]
        for at, other in enumerate(sizes):
            self.assertEqual([kept == other for kept in sizes], [place == at for place in range(4)])
        for other in (None, 1, given, (figures, 2, 1), code_pair(one), program_of(one), "code"):
            self.assertFalse(one == other)

    def test_nothing_passed_in_is_kept(self):
        steps, told = [["product", 0, 1]], [2, None]
        made = Code(Figures(5), 1, 1, steps, told)
        steps[0][0] = "sum"
        steps.append(1)
        told[0] = None
        self.assertEqual((made.steps, made.told), ((("product", 0, 1),), (2, None)))

    def test_sizes_and_counts(self):
        for figures in all_figures():
            wide = (figures.prime + 1,) if figures.prime in (2, 3) else ()
            for thing in (0, -1, 6, True, None, "1", 1.0, (1,)) + wide:
                self.assertEqual(raised(Code, figures, thing, None, None, None), ("BadCode", (0, "rows")))
                self.assertEqual(raised(Code, figures, 1, thing, None, None), ("BadCode", (0, "columns")))
            for thing in (None, "abc", 3, {}, (None,) * 701):
                self.assertEqual(raised(Code, figures, 1, 1, thing, None), ("BadCode", (0, "many")))
            for told in ((None, None), None):
                due = None if told else ("BadCode", (0, "told"))
                self.assertEqual(raised(Code, figures, 1, 1, (("by", 0, figures.one),) * 700, told), due)

    def test_steps_in_their_order(self):
        for figures in all_figures():
            one = figures.one
            ahead = [("product", 0, 2), ("sum", 0, 1), ("less", 2, 3), ("by", 5, one)]
            # The letters are 0, 1 and 2, 3; the steps make an answer 4, left 5, right 6, left 7.
            shape = [None, (), "abc", 3, ("sum", 0), ("sum", 0, 1, 1), ("plus", 0, 1), (None, 0, 1), (("sum",), 0, 1),
                     (0, 0, 1), ("SUM", 0, 1), {}, (["sum"], 0, 1)]
            value = [(word, thing, thing) for word in WORDS for thing in (-1, 8, True, None, "0", 0.0, (0,), 10 ** 20)]
            value += [(word, 0, thing) for word in ("sum", "less", "product") for thing in (-1, 8, False, None, "0", one, [])
                      if thing != one or figures.prime == 0]
            side = [("sum", 0, 2), ("less", 2, 0), ("sum", 0, 4), ("less", 4, 6), ("product", 2, 0), ("product", 0, 1),
                    ("product", 2, 3), ("product", 4, 2), ("product", 0, 4), ("product", 4, 4), ("sum", 6, 7)]
            number = [("by", 0, thing) for thing in not_numbers(figures)] + [("by", 4, None), ("by", 2, "1")]
            for word, cases in (("shape", shape), ("value", value), ("side", side), ("number", number)):
                for step in cases:
                    for told in ((4, None), None):
                        self.assertEqual(raised(Code, figures, 2, 2, ahead + [step, None], told), ("BadCode", (4, word)))
                if word in ("shape", "value"):
                    for step in cases:
                        self.assertEqual(raised(Code, figures, 2, 2, [step] + ahead, None), ("BadCode", (0, word)))
            # Two wrong things in one step: the value ahead of the side and of the number.
            self.assertEqual(raised(Code, figures, 2, 2, [("sum", 0, 9)], None), ("BadCode", (0, "value")))
            self.assertEqual(raised(Code, figures, 2, 2, [("product", 2, 9)], None), ("BadCode", (0, "value")))
            self.assertEqual(raised(Code, figures, 2, 2, [("by", 4, None)], None), ("BadCode", (0, "value")))
            # A step may not use its own value.
            self.assertEqual(raised(Code, figures, 2, 2, [("sum", 4, 4)], None), ("BadCode", (0, "value")))

    def test_told(self):
        for figures in all_figures():
            steps = (("product", 0, 1), ("by", 0, figures.one), ("sum", 2, 2))
            for told in ((2, 4), [None, 4], (4, 4), (None, None)):
                self.assertIsNone(raised(Code, figures, 1, 1, steps, told))
            for told in (None, (), (2,), (2, 4, 2), "24", 3, {}, (0, None), (None, 1), (3, 2), (5, None), (-1, None),
                         (True, None), (2, False), (2, "4"), ((2,), 2), (2.0, 2)):
                self.assertEqual(raised(Code, figures, 1, 1, steps, told), ("BadCode", (0, "told")))


class AnswerTest(unittest.TestCase):

    def judge(self, code, draw):
        figures = code.figures
        given = code_pair(code)
        self.assertEqual((given.rows, given.columns, given.figures), (code.rows, code.columns, figures))
        for _ in range(3):
            x, y = drawn_row(figures, draw, code.rows), drawn_row(figures, draw, code.columns)
            values = values_by_hand(code, x, y)
            due = tuple(figures.zero if told is None else values[told] for told in code.told)
            made = run_code(code, x, y)
            self.assertEqual(made, due)
            self.assertIs(type(made), tuple)
            self.assertEqual(run_code(code, list(x), list(y)), due)
            self.assertEqual(given.answers(x, y), due)
        words = [step[0] for step in code.steps]
        made = steps_counted(code)
        self.assertIsInstance(made, Counted)
        self.assertEqual((made.sums, made.sizes, made.products),
                         (sum(word in ("sum", "less") for word in words), words.count("by"), words.count("product")))

    def test_drawn_codes(self):
        draw = drawer(431)
        for figures in all_figures():
            for many in (0, 1, 3, 10, 30):
                for _ in range(5):
                    self.judge(drawn_code(figures, draw, many), draw)
            self.judge(drawn_code(figures, draw, 40, most_sides(figures), most_sides(figures)), draw)

    def test_the_longest_codes(self):
        draw = drawer(432)
        for figures in all_figures():
            code = drawn_code(figures, draw, 700, 2, 2, ("sum", "less", "product", "sum"))
            self.assertEqual(len(code), 700)
            self.judge(code, draw)
        figures = Figures(0)
        steps = [("product", 0, 1)] + [("sum", at, at) for at in range(2, 701)]
        code = Code(figures, 1, 1, steps, (701, 2))
        self.assertEqual(run_code(code, ((3, 1),), ((1, 1),)), ((3 * 2 ** 699, 1), (3, 1)))
        self.assertEqual(code_pair(code).first, (((2 ** 699, 1),),))

    def test_answers_that_are_always_nothing(self):
        for figures in all_figures():
            x, y = (figures.one,), (figures.one,)
            steps = (("product", 0, 1), ("less", 2, 2), ("by", 2, figures.zero))
            for told in ((None, None), (3, None), (None, 4), (3, 4)):
                code = Code(figures, 1, 1, steps, told)
                self.assertEqual(run_code(code, x, y), (figures.zero,) * 2)
                self.assertEqual(code_pair(code), zero_pair(figures, 1, 1))

    def test_refusals_of_letters(self):
        for figures in all_figures():
            code = Code(figures, 2, 1, (("product", 0, 2),), (3, None))
            for row, index in bad_letters(figures, 2):
                self.assertEqual(raised(run_code, code, row, None), ("BadLetters", ("left", index)))
            for row, index in bad_letters(figures, 1):
                self.assertEqual(raised(run_code, code, (figures.one,) * 2, row), ("BadLetters", ("right", index)))

    def test_complex_numbers(self):
        figures = Figures(0)
        steps = (("sum", 0, 1), ("product", 4, 2), ("less", 3, 2), ("product", 0, 6), ("sum", 2, 3), ("product", 1, 8),
                 ("less", 5, 9), ("sum", 5, 7))
        code = Code(figures, 2, 2, steps, (10, 11))
        self.assertEqual(run_code(code, numbers(figures, (2, 3)), numbers(figures, (5, 7))), numbers(figures, (-11, 29)))
        made = steps_counted(code)
        self.assertEqual((made.sums, made.sizes, made.products), (5, 0, 3))

    def test_results_keep_what_they_are_given(self):
        made = Counted("a", [1], None)
        self.assertEqual((made.sums, made.sizes, made.products), ("a", [1], None))
        self.assertFalse(made == Counted("a", [1], None))


class ProgramTest(unittest.TestCase):

    def judge(self, program, draw):
        figures = program.figures
        code = code_of(program)
        self.assertIsInstance(code, Code)
        self.assertEqual((code.figures, code.rows, code.columns), (figures, program.rows, program.columns))
        doing = [entry for entry in program if does(figures, entry)]
        many, both = len(doing), program.rows + program.columns
        counted = steps_counted(code)
        self.assertEqual(counted.products, many)
        self.assertLessEqual(counted.sums, many * both)
        self.assertLessEqual(counted.sizes, many * (both + 2))
        self.assertEqual(code_pair(code), program.pair())
        x, y = drawn_row(figures, draw, program.rows), drawn_row(figures, draw, program.columns)
        self.assertEqual(run_code(code, x, y), program.run(x, y))
        back = program_of(code)
        self.assertEqual(len(back), many)
        self.assertIsNotNone(alike_programs(back, program))
        self.assertTrue(is_right(program.pair(), back))
        # The products stand in their order.
        for entry, other in zip(doing, back):
            one = Program(figures, program.rows, program.columns, [entry])
            self.assertIsNotNone(alike_programs(one, Program(figures, program.rows, program.columns, [other])))
        self.assertTrue(code == code_of(Program(figures, program.rows, program.columns, list(program.products))))

    def test_drawn_programs(self):
        draw = drawer(433)
        for figures in all_figures():
            for filled in (0.3, 0.8, 1):
                for _ in range(8):
                    self.judge(any_program(figures, draw, filled), draw)
            most = most_sides(figures)
            self.judge(drawn_program(figures, draw, most, most, 30, 1), draw)
            self.judge(Program(figures, 1, most, ()), draw)
            idle = Program(figures, 2, 1, [idle_product(figures, 2, 1)] * 30)
            self.judge(idle, draw)
            self.assertEqual((len(code_of(idle)), code_of(idle).told), (0, (None, None)))
            self.judge(with_more(idle.tidy(), ((figures.one,) * 2, (figures.one,), figures.zero, figures.one)), draw)

    def test_products_that_cancel(self):
        for figures in all_figures():
            one, less = figures.one, figures.negative(figures.one)
            program = Program(figures, 1, 1, [((one,), (one,), one, one), ((one,), (one,), less, less)])
            self.judge(program, drawer(434))
            self.assertEqual(code_pair(code_of(program)), zero_pair(figures, 1, 1))

    def test_programs_of_drawn_codes(self):
        draw = drawer(435)
        for figures in all_figures():
            for _ in range(15):
                code = drawn_code(figures, draw, draw.randint(0, 40))
                if steps_counted(code).products > 30:
                    continue
                made = program_of(code)
                self.assertEqual(made.pair(), code_pair(code))
                values = {side: list(zip(*[values_by_hand(code, *letters) for letters in
                                           [(x, (figures.zero,) * code.columns) if side == "left" else
                                            ((figures.zero,) * code.rows, x)
                                            for x in units(figures, code.rows if side == "left" else code.columns)]]))
                          for side in ("left", "right")}
                products = [step for step in code.steps if step[0] == "product"]
                self.assertEqual(len(made), len(products))
                for (_, one, other), (u, v, _, _) in zip(products, made):
                    self.assertEqual((u, v), (values["left"][one], values["right"][other]))

    def test_how_often_a_product_is_contained(self):
        figures = Figures(7)
        steps = (("product", 0, 1), ("by", 2, 3), ("sum", 3, 2), ("product", 0, 1), ("less", 4, 5), ("by", 5, 0))
        made = program_of(Code(figures, 1, 1, steps, (6, 7)))
        self.assertEqual(made.products, (((1,), (1,), 4, 0), ((1,), (1,), 6, 0)))
        made = program_of(Code(figures, 1, 1, steps, (None, 4)))
        self.assertEqual(made.products, (((1,), (1,), 0, 4), ((1,), (1,), 0, 0)))

    def test_too_many_products(self):
        for figures in all_figures():
            for many in (30, 31, 700):
                code = Code(figures, 1, 1, (("product", 0, 1),) * many, (None, 2))
                due = None if many == 30 else ("BadProgram", (0, "many"))
                self.assertEqual(raised(program_of, code), due)


class ThinnedTest(unittest.TestCase):

    def thinned_by_hand(self, code):
        """Step by step as [10.4] tells it, values compared for all letters."""
        figures = code.figures
        told = told_for_all(code)
        sides = sides_of(code)
        ahead = code.rows + code.columns
        left, right = units(figures, code.rows), units(figures, code.columns)
        forms = {}
        for place in range(len(sides)):
            rows = [values_by_hand(code, x, (figures.zero,) * code.columns)[place] for x in left]
            columns = [values_by_hand(code, (figures.zero,) * code.rows, y)[place] for y in right]
            forms[place] = (sides[place], tuple(rows), tuple(columns)) if sides[place] != "answer" \
                else ("answer", told[place], ())
        answers = [None if value is None or all(number == figures.zero for number in told[value]) else value
                   for value in code.told]
        kept, instead = list(range(ahead)), {}
        for place in range(len(sides)):
            equal = next((old for old in kept if forms[old] == forms[place] and old < place), None)
            instead[place] = place if equal is None else equal
            if equal is None and place >= ahead:
                kept.append(place)
        answers = [None if value is None else instead[value] for value in answers]

        def used(place):
            word, one, other = code.steps[place - ahead]
            return [instead[one]] + ([] if word == "by" else [instead[other]])
        needed, queue = set(), [value for value in answers if value is not None]
        while queue:
            place = queue.pop()
            if place >= ahead and place not in needed:
                needed.add(place)
                queue += used(place)
        places = {place: at for at, place in enumerate(list(range(ahead)) + sorted(needed))}
        steps = []
        for place in sorted(needed):
            word, one, other = code.steps[place - ahead]
            steps.append((word, places[instead[one]], other if word == "by" else places[instead[other]]))
        return Code(figures, code.rows, code.columns, steps,
                    [None if value is None else places[value] for value in answers])

    def judge(self, code):
        made = thinned_code(code)
        self.assertIsInstance(made, Code)
        self.assertEqual((made.steps, made.told), (self.thinned_by_hand(code).steps, self.thinned_by_hand(code).told))
        self.assertEqual(made, self.thinned_by_hand(code))
        self.assertEqual(code_pair(made), code_pair(code))
        self.assertTrue(thinned_code(made) == made)
        before, after = steps_counted(code), steps_counted(made)
        for name in ("sums", "sizes", "products"):
            self.assertLessEqual(getattr(after, name), getattr(before, name))
        zero = zero_pair(code.figures, code.rows, code.columns).first
        for value, table in zip(made.told, (code_pair(code).first, code_pair(code).second)):
            self.assertEqual(value is None, table == zero)
        return made

    def test_drawn_codes(self):
        draw = drawer(436)
        lost = 0
        for figures in all_figures():
            for many in (0, 1, 5, 12, 25, 40):
                for _ in range(5):
                    code = drawn_code(figures, draw, many)
                    lost += len(code) - len(self.judge(code))
        self.assertGreater(lost, 100)

    def test_values_for_all_letters_by_two(self):
        # By 2 all letters are gone through: no two values of one side agree everywhere, letters included.
        draw = drawer(437)
        figures = Figures(2)
        for _ in range(40):
            made = thinned_code(drawn_code(figures, draw, draw.randint(0, 15), 2, 2))
            everywhere = list(zip(*[values_by_hand(made, x, y) for x in itertools.product((0, 1), repeat=2)
                                    for y in itertools.product((0, 1), repeat=2)]))
            kinds = list(zip(sides_of(made), everywhere))
            self.assertEqual(len(set(kinds)), len(kinds))

    def test_letters_made_again_and_useless_steps(self):
        for figures in all_figures():
            one, zero = figures.one, figures.zero
            steps = [("by", 0, one), ("sum", 1, 2), ("less", 4, 2), ("by", 1, zero), ("product", 3, 2), ("product", 0, 5),
                     ("sum", 7, 8), ("less", 7, 7), ("by", 7, one), ("by", 10, one), ("sum", 6, 6)]
            # Values: 0 left, 1 and 2 right; 3 is 0, 5 is 1, 7 is a product, 10 is 0, 11 is 7 again.
            made = self.judge(Code(figures, 1, 2, steps, (11, 10)))
            self.assertEqual((made.steps, made.told), ((("product", 0, 2),), (3, None)))
            made = self.judge(Code(figures, 1, 2, steps, (9, 8)))
            self.assertEqual((made.steps, made.told), ((("product", 0, 2), ("product", 0, 1), ("sum", 3, 4)), (5, 4)))
            made = self.judge(Code(figures, 1, 2, steps, (None, 10)))
            self.assertEqual((made.steps, made.told), ((), (None, None)))
            made = self.judge(Code(figures, 1, 2, steps, (7, 11)))
            self.assertEqual(made.told, (3, 3))

    def test_a_value_that_is_nothing_may_stay_within(self):
        figures = Figures(5)
        steps = [("less", 0, 0), ("product", 2, 1), ("product", 0, 1), ("sum", 3, 4)]
        made = self.judge(Code(figures, 1, 1, steps, (5, 3)))
        self.assertEqual((made.steps, made.told), ((("product", 0, 1),), (2, None)))

    def test_codes_of_programs(self):
        draw = drawer(438)
        for figures in all_figures():
            for _ in range(6):
                program = any_program(figures, draw)
                made = self.judge(code_of(program))
                self.assertEqual(code_pair(made), program.pair())
                twice = with_more(program, *program.products[:2])
                self.judge(code_of(twice))

    def test_the_longest_codes(self):
        draw = drawer(439)
        for figures in (Figures(0), Figures(3), Figures(13)):
            code = drawn_code(figures, draw, 700, 2, 2, ("sum", "less", "product"))
            made = thinned_code(code)
            self.assertEqual(code_pair(made), code_pair(code))
            self.assertEqual(thinned_code(made), made)
        figures = Figures(3)
        steps = [("product", 0, 1)] + [("sum", 2, at) for at in range(2, 701)]
        made = thinned_code(Code(figures, 1, 1, steps, (701, 700)))
        # The values are 1, 2, 0, 1, .. times the product.
        values = [(at + 1) % 3 for at in range(700)]
        self.assertEqual(code_pair(made).first, ((values[699],),))
        self.assertEqual(code_pair(made).second, ((values[698],),))
        self.assertLessEqual(len(made), 3)


if __name__ == "__main__":
    unittest.main()
