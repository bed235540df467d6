"""Promises 6.03, 6.04, 6.08, 6.17: programs alike, products exchanged, one program only, twins [8.6] to [8.9]."""

import itertools
import unittest

from drawnblocks import drawn_kinds, drawn_turned
from drawnprograms import any_program, drawn_program, idle_product, with_more
from helpers import all_figures, drawer, drawn_invertible, drawn_number, most_sides, numbers, pair, raised
from sparedproducts.blocks import blocks_of, lying_pair, square_pair, standing_pair
from sparedproducts.counts import fewest_of, fewest_row
from sparedproducts.factors import comes_apart
from sparedproducts.figures import Figures
from sparedproducts.invariants import poly_at_table
from sparedproducts.joining import joined_pairs
from sparedproducts.lyingprograms import lying_programs
from sparedproducts.making import least_program
from sparedproducts.pairs import zero_pair
from sparedproducts.polys import poly_of_roots, poly_times
from sparedproducts.programs import Program, is_right
from sparedproducts.solving import rank_of, undone_table, unit_table
from sparedproducts.twins import Match, Shared, alike_programs, exchanged_program, only_one, shared_side, twin_program

SIDES = ("left", "right", "numbers")


def does(figures, entry):
    u, v, c, d = entry
    return all(any(number != figures.zero for number in row) for row in (u, v, (c, d)))


def scaled(figures, size, row):
    return tuple(figures.times(size, number) for number in row)


def drawn_size(figures, draw):
    while True:
        made = drawn_number(figures, draw)
        if made != figures.zero:
            return made


def rescaled(figures, entry, left, right):
    """The product whose left numbers are left times, whose right numbers are right times as great."""
    u, v, c, d = entry
    less = figures.over(figures.one, figures.times(left, right))
    return (scaled(figures, left, u), scaled(figures, right, v)) + scaled(figures, less, (c, d))


def drawn_alike(program, draw):
    """The products in another order, by other sizes, with some between that do nothing; and the place of each."""
    figures = program.figures
    doing = [place for place, entry in enumerate(program) if does(figures, entry)]
    order = draw.sample(doing, len(doing))
    products, told = [], {}
    for place in order:
        if draw.random() < 0.3 and len(products) + len(order) < 29:
            products.append(idle_product(figures, program.rows, program.columns))
        sizes = drawn_size(figures, draw), drawn_size(figures, draw)
        told[place] = (len(products),) + sizes
        products.append(rescaled(figures, program.products[place], *sizes))
    return Program(figures, program.rows, program.columns, products[:30]), told


def normal_form(program):
    return sorted(program.tidy().products)


def size_between(figures, one, other):
    """The size by which one row goes over into the other one, by trial of the numbers at hand."""
    for at, number in enumerate(one):
        if number != figures.zero:
            size = figures.over(other[at], number)
            if size != figures.zero and scaled(figures, size, one) == tuple(other):
                return size
    return None


def side_of(entry, side):
    return {"left": entry[0], "right": entry[1], "numbers": entry[2:]}[side]


def all_shared(program):
    """All couples of places and their sides, in the order in which they are looked for."""
    figures = program.figures
    for first, second in itertools.combinations(range(len(program)), 2):
        one, other = program.products[first], program.products[second]
        if does(figures, one) and does(figures, other):
            for side in SIDES:
                if size_between(figures, side_of(one, side), side_of(other, side)) is not None:
                    yield first, second, side


def sharing_program(figures, draw):
    """A drawn program some of whose products share sides."""
    program = any_program(figures, draw, 0.7)
    products = list(program.products) + [idle_product(figures, program.rows, program.columns)]
    for _ in range(draw.randint(1, 4)):
        u, v, c, d = draw.choice(products)
        other = drawn_program(figures, draw, program.rows, program.columns, 1).products[0]
        size = drawn_size(figures, draw)
        made = draw.choice(((scaled(figures, size, u),) + other[1:], (other[0], scaled(figures, size, v)) + other[2:],
                            other[:2] + scaled(figures, size, (c, d))))
        products.insert(draw.randint(0, len(products)), made)
    return Program(figures, program.rows, program.columns, products)


class AlikeTest(unittest.TestCase):

    def judge(self, program, other):
        figures = program.figures
        made = alike_programs(program, other)
        if made is None:
            self.assertNotEqual(normal_form(program), normal_form(other))
            return None
        self.assertIs(type(made), tuple)
        doing = [place for place, entry in enumerate(program) if does(figures, entry)]
        self.assertEqual([match.product for match in made], doing)
        self.assertEqual(sorted(match.other for match in made),
                         [place for place, entry in enumerate(other) if does(figures, entry)])
        taken = set()
        for match in made:
            self.assertIsInstance(match, Match)
            one, two = program.products[match.product], other.products[match.other]
            self.assertEqual(two, rescaled(figures, one, match.left, match.right))
            for place in range(match.other):
                if place not in taken and does(figures, other.products[place]):
                    less = Program(figures, program.rows, program.columns, [one])
                    more = Program(figures, program.rows, program.columns, [other.products[place]])
                    self.assertNotEqual(normal_form(less), normal_form(more))
            taken.add(match.other)
        return made

    def test_drawn_programs(self):
        draw = drawer(401)
        for figures in all_figures():
            for _ in range(20):
                program = any_program(figures, draw)
                other, told = drawn_alike(program, draw)
                made = self.judge(program, other)
                self.assertIsNotNone(made)
                if len(set(normal_form(program))) == len(told):
                    self.assertEqual({match.product: (match.other, match.left, match.right) for match in made}, told)
                self.assertIsNotNone(self.judge(other, program))
                self.assertEqual(other.pair(), program.pair())
                self.assertIsNotNone(self.judge(program, program.tidy()))
                self.judge(program, drawn_program(figures, draw, program.rows, program.columns, 2))

    def test_one_number_wrong_left_over_and_other_sizes(self):
        draw = drawer(402)
        for figures in all_figures():
            for _ in range(8):
                program = any_program(figures, draw)
                doing = [place for place, entry in enumerate(program) if does(figures, entry)]
                if not doing:
                    continue
                other, _ = drawn_alike(program, draw)
                u, v, c, d = other.products[-1]
                spoiled = [(u, v, figures.plus(c, figures.one), d), (u, v, c, figures.plus(d, figures.one))]
                for made in spoiled:
                    self.judge(program, Program(figures, program.rows, program.columns, other.products[:-1] + (made,)))
                less = Program(figures, program.rows, program.columns, other.products[:-1])
                self.assertIsNone(self.judge(program, less))
                self.assertIsNone(self.judge(less, program))
                twice = with_more(program, program.products[doing[0]])
                self.assertIsNone(self.judge(program, twice))
                self.assertIsNone(self.judge(twice, program))
                self.assertEqual(len(self.judge(twice, twice)), len(doing) + 1)

    def test_same_direction_but_another_size(self):
        for figures in all_figures():
            one = figures.one
            if figures.prime == 2:
                continue
            two = figures.whole_number(2)
            program = Program(figures, 1, 1, [((one,), (one,), one, one)])
            self.assertIsNone(alike_programs(program, Program(figures, 1, 1, [((two,), (one,), one, one)])))
            self.assertIsNone(alike_programs(program, Program(figures, 1, 1, [((one,), (one,), two, two)])))
            self.assertIsNone(alike_programs(program, Program(figures, 1, 1, [((one,), (one,), one, two)])))
            half = figures.over(one, two)
            made = alike_programs(program, Program(figures, 1, 1, [((two,), (one,), half, half)]))
            self.assertEqual((made[0].left, made[0].right), (two, one))

    def test_alike_products_are_taken_in_order(self):
        figures = Figures(5)
        one, two = ((1,), (1,), 1, 0), ((2,), (3,), 1, 0)
        made = alike_programs(Program(figures, 1, 1, [one, two]), Program(figures, 1, 1, [((0,), (1,), 1, 1), two, one]))
        self.assertEqual([(match.product, match.other, match.left, match.right) for match in made],
                         [(0, 1, 2, 3), (1, 2, 3, 2)])

    def test_sizes_and_figures(self):
        draw = drawer(403)
        for figures in all_figures():
            none = [Program(figures, rows, columns, ()) for rows, columns in ((1, 1), (1, 2), (2, 1))]
            for one, other in itertools.permutations(none, 2):
                self.assertIsNone(alike_programs(one, other))
            self.assertEqual(alike_programs(none[1], none[1]), ())
            self.assertEqual(alike_programs(none[1], with_more(none[1], idle_product(figures, 1, 2))), ())
            alien = Program(Figures(7 if figures.prime != 7 else 0), 1, 1, ())
            for one in none:
                self.assertEqual(raised(alike_programs, one, alien), ("Unlike", ()))
            longest = drawn_program(figures, draw, most_sides(figures), most_sides(figures), 30)
            self.assertIsNotNone(self.judge(longest, drawn_alike(longest, draw)[0]))

    def test_results_keep_what_they_are_given(self):
        made = Match("a", [1], None, 4)
        self.assertEqual((made.product, made.other, made.left, made.right), ("a", [1], None, 4))
        self.assertFalse(made == Match("a", [1], None, 4))
        made = Shared("a", [1], None)
        self.assertEqual((made.first, made.second, made.side), ("a", [1], None))
        self.assertFalse(made == Shared("a", [1], None))


class SharedTest(unittest.TestCase):

    def test_the_first_couple_and_side(self):
        draw = drawer(404)
        met = set()
        for figures in all_figures():
            for _ in range(40):
                program = draw.choice((sharing_program, any_program))(figures, draw)
                due = next(all_shared(program), None)
                made = shared_side(program)
                if due is None:
                    self.assertIsNone(made)
                else:
                    self.assertIsInstance(made, Shared)
                    self.assertEqual((made.first, made.second, made.side), due)
                met.add(due and due[2])
        self.assertEqual(met, {"left", "right", "numbers", None})

    def exchanged_by_hand(self, program, first, second, side):
        """The two new products by the words of [8.8]."""
        figures = program.figures
        u1, v1, c1, d1 = program.products[first]
        u2, v2, c2, d2 = program.products[second]
        size = size_between(figures, side_of(program.products[first], side), side_of(program.products[second], side))

        def less(one, other):
            return tuple(figures.minus(left, right) for left, right in zip(one, other))

        def plus(one, other):
            return tuple(figures.plus(left, right) for left, right in zip(one, other))
        u, v = scaled(figures, size, u2), scaled(figures, size, v2)
        if side == "left":
            return (u1, less(v1, v), c1, d1), (u1, v, figures.plus(c1, c2), figures.plus(d1, d2))
        if side == "right":
            return (less(u1, u), v1, c1, d1), (u, v1, figures.plus(c1, c2), figures.plus(d1, d2))
        return (less(u1, u), v1, c1, d1), (u, plus(v1, v2), c1, d1)

    def test_exchanges(self):
        draw = drawer(405)
        for figures in all_figures():
            for _ in range(12):
                program = sharing_program(figures, draw)
                for first, second, side in list(all_shared(program))[:12]:
                    for one, other in ((first, second), (second, first)):
                        made = exchanged_program(program, one, other, side)
                        due = list(program.products)
                        due[one], due[other] = self.exchanged_by_hand(program, one, other, side)
                        self.assertEqual(made.products, tuple(due))
                        self.assertEqual(made.pair(), program.pair())

    def test_programs_of_the_fewest_products_go_over_into_others(self):
        draw = drawer(406)
        met = set()
        for figures, _, given in drawn_kinds(407, 10):
            program = drawn_alike(least_program(given).program, draw)[0]
            for first, second, side in list(all_shared(program))[:6]:
                for one, other in ((first, second), (second, first)):
                    made = exchanged_program(program, one, other, side)
                    self.assertTrue(is_right(given, made))
                    self.assertIsNone(alike_programs(program, made))
                    met.add(side)
        self.assertEqual(met, set(SIDES))

    def test_refusals(self):
        draw = drawer(408)
        for figures in all_figures():
            zero, one = figures.zero, figures.one
            program = Program(figures, 2, 1, [((one, zero), (one,), one, one), ((zero, one), (one,), one, zero),
                                              ((zero, zero), (one,), one, one), ((one, one), (zero,), one, one),
                                              ((one, one), (one,), zero, zero)])
            self.assertIsNone(raised(exchanged_program, program, 0, 1, "right"))
            self.assertIsNone(raised(exchanged_program, program, 1, 0, "right"))
            for side in ("left", "numbers", "answer", "", None, True, 0, ("right",), ["right"]):
                self.assertEqual(raised(exchanged_program, program, 0, 1, side), ("NotShared", ()))
            for place in (-1, 5, True, None, "1", 1.0, (1,), 0):
                self.assertEqual(raised(exchanged_program, program, 0, place, "right"), ("NotShared", ()))
                if place != 0:
                    self.assertEqual(raised(exchanged_program, program, place, 1, "right"), ("NotShared", ()))
            for idle in (2, 3, 4):
                for side in SIDES:
                    self.assertEqual(raised(exchanged_program, program, 0, idle, side), ("NotShared", ()))
                    self.assertEqual(raised(exchanged_program, program, idle, 0, side), ("NotShared", ()))
            self.assertEqual(raised(exchanged_program, program, False, 1, "right"), ("NotShared", ()))
            # Whatever they share, a word that is no side is none.
            alike = Program(figures, 2, 1, [program.products[0]] * 2)
            for side in ("answer", "both", "", None, 2, ["left"]):
                self.assertEqual(raised(exchanged_program, alike, 0, 1, side), ("NotShared", ()))
            for _ in range(6):
                other = any_program(figures, draw)
                shared = set(all_shared(other))
                for first, second in itertools.combinations(range(len(other)), 2):
                    for side in SIDES:
                        due = None if (first, second, side) in shared else ("NotShared", ())
                        self.assertEqual(raised(exchanged_program, other, first, second, side), due)

    def test_example(self):
        figures = Figures(5)
        program = Program(figures, 2, 2, [((1, 0), (1, 0), 1, 1), ((0, 1), (0, 1), 1, 1)])
        made = exchanged_program(program, 0, 1, "numbers")
        self.assertEqual(made.products, (((1, 4), (1, 0), 1, 1), ((0, 1), (1, 1), 1, 1)))


class OnlyTest(unittest.TestCase):

    def judge(self, given, due):
        """Whether there is one program only, and if not another one of as many products."""
        self.assertIs(only_one(given), due)
        least = least_program(given).program
        twin = twin_program(given)
        if due:
            self.assertIsNone(twin)
            return
        self.assertTrue(is_right(given, twin))
        self.assertEqual(len(twin), fewest_of(given).number)
        self.assertIsNone(alike_programs(least, twin))
        self.assertIsNone(alike_programs(twin, least))

    def test_built_blocks(self):
        met = set()
        for figures, made, given in drawn_kinds(411, 30):
            due = (not made.lying and not made.standing and len(made.polys) <= 1
                   and all(comes_apart(figures, poly) is not None for poly in blocks_of(given).polys))
            self.judge(given, due)
            met.add(due)
        self.assertEqual(met, {True, False})

    def test_lying_and_standing_blocks(self):
        draw = drawer(412)
        for figures in all_figures():
            for size in range(1, most_sides(figures)):
                for given in (lying_pair(figures, size), standing_pair(figures, size)):
                    self.judge(given, False)
                    self.judge(drawn_turned(given, draw), False)

    def test_all_programs_of_a_lying_block(self):
        # The twin of a lying block is, up to sizes and order, one of all its least programs.
        for prime, size in ((2, 1), (3, 1), (3, 2), (5, 2), (5, 4), (7, 3)):
            figures = Figures(prime)
            twin = twin_program(lying_pair(figures, size))
            found = [made for made in lying_programs(figures, size) if alike_programs(made, twin) is not None]
            self.assertEqual(len(found), 1)

    def test_polys_of_all_degrees_that_do_not_come_apart(self):
        draw = drawer(413)
        for figures in all_figures():
            for degree in range(1, most_sides(figures) + 1):
                for roots in range(2):
                    poly = (figures.zero,) * degree + (figures.one,)
                    if roots:
                        poly = poly_of_roots(figures, [drawn_number(figures, draw) for _ in range(degree)])
                    self.judge(square_pair(figures, poly), comes_apart(figures, poly) is not None)

    def test_all_polys_by_two_and_three(self):
        # Also of degree 2 by 2 and of degree 3 by 3, where there are no other points to choose.
        for prime in (2, 3):
            figures = Figures(prime)
            for degree in range(1, prime + 1):
                for below in itertools.product(range(prime), repeat=degree):
                    poly = below + (1,)
                    self.judge(square_pair(figures, poly), comes_apart(figures, poly) is not None)

    def test_degree_five_by_five(self):
        draw = drawer(414)
        figures = Figures(5)
        for _ in range(20):
            poly = tuple(drawn_number(figures, draw) for _ in range(5)) + (1,)
            self.judge(drawn_turned(square_pair(figures, poly), draw), comes_apart(figures, poly) is not None)
        self.judge(square_pair(figures, (0, 4, 0, 0, 0, 1)), True)

    def test_rows_of_several_polys(self):
        draw = drawer(415)
        for figures in all_figures():
            ones = [square_pair(figures, numbers(figures, (0, 1)))] * 2
            self.judge(drawn_turned(joined_pairs(ones), draw), False)
            if most_sides(figures) >= 4:
                poly = numbers(figures, (1, 1, 1)) if figures.prime != 7 else numbers(figures, (1, 0, 1))
                self.judge(drawn_turned(joined_pairs([square_pair(figures, poly)] * 2), draw), False)

    def test_zeros_and_idle_ones(self):
        for figures in all_figures():
            self.judge(zero_pair(figures, 2, 1), True)
            given = pair(figures, ((1, 0), (0, 0)), ((0, 0), (0, 1)))
            self.judge(given, True)
            self.judge(pair(figures, ((1, 0),), ((1, 0),)), True)
            self.judge(pair(figures, ((1, 0),), ((0, 1),)), False)

    def test_one_program_only_however_it_is_made(self):
        draw = drawer(416)
        for figures, made, given in drawn_kinds(417, 14):
            if not only_one(given):
                continue
            least = least_program(given).program
            left, right = drawn_invertible(figures, draw, given.rows), drawn_invertible(figures, draw, given.columns)
            mix = drawn_invertible(figures, draw, 2)
            other = least_program(given.turned(left, right)).program
            other = other.led(undone_table(figures, left), undone_table(figures, right))
            self.assertIsNotNone(alike_programs(least, other))
            other = least_program(given.mixed(mix)).program.mixed(undone_table(figures, mix))
            self.assertIsNotNone(alike_programs(least, other))
            self.assertIsNotNone(alike_programs(least, least_program(given.flipped()).program.flipped()))


def with_no_root(figures):
    """A poly of degree 2 without roots."""
    return numbers(figures, {2: (1, 1, 1), 5: (2, 0, 1), 13: (2, 0, 1)}.get(figures.prime, (1, 0, 1)))


class PowersTest(unittest.TestCase):

    def ranks_of_powers(self, figures, table, factor):
        """How many polys of the row the first, second, .. power of the factor divides."""
        counts, power, ahead = [], (figures.one,), len(table)
        while True:
            power = poly_times(figures, power, factor)
            rank = rank_of(figures, poly_at_table(figures, power, table))
            if rank == ahead:
                return counts
            counts.append((ahead - rank) // (len(factor) - 1))
            ahead = rank

    def row_by_ranks(self, figures, table, factors):
        """Couples (degree, whether it comes apart) of the row of polys, ascending."""
        found = [(factor, self.ranks_of_powers(figures, table, factor)) for factor in factors]
        many = max(counts[0] for _, counts in found if counts)
        row = []
        for at in range(many, 0, -1):
            times = [(len(factor) - 1, sum(count >= at for count in counts)) for factor, counts in found]
            degree = sum(high * time for high, time in times)
            row.append((degree, all(time == 0 or (high == 1 and time == 1) for high, time in times)))
        return row

    def test_square_pairs_by_ranks_of_powers(self):
        draw = drawer(418)
        met = set()
        for figures in all_figures():
            most = most_sides(figures)
            for _ in range(14):
                factors = [(figures.negative(root), figures.one) for root in (figures.zero, figures.one)]
                factors.append(with_no_root(figures))
                polys = []
                while sum(len(poly) - 1 for poly in polys) < most:
                    factor = draw.choice(factors)
                    times = draw.choice((1, 1, 2))
                    poly = factor if times == 1 else poly_times(figures, factor, factor)
                    if sum(len(poly) - 1 for poly in polys + [poly]) <= most:
                        polys.append(poly)
                given = drawn_turned(joined_pairs([square_pair(figures, poly) for poly in polys]), draw)
                # Turned so that the first table is the unit table again.
                table = given.turned(undone_table(figures, given.first), unit_table(figures, most)).second
                row = self.row_by_ranks(figures, table, factors)
                number = sum(degree + (not apart) for degree, apart in row)
                made = fewest_of(given)
                self.assertEqual(made.number, number)
                self.assertEqual(len(made.extras), sum(not apart for _, apart in row))
                self.assertEqual(fewest_row(given), tuple(("square", degree, degree + (not apart)) for degree, apart in row))
                self.assertEqual(len(least_program(given).program), number)
                self.assertIs(only_one(given), len(row) == 1 and row[0][1])
                met.add((len(row), only_one(given)))
        self.assertLessEqual({(1, True), (1, False), (2, False), (3, False)}, met)

    def test_the_polys_without_roots(self):
        for figures in all_figures():
            self.assertIsNone(comes_apart(figures, with_no_root(figures)))


if __name__ == "__main__":
    unittest.main()
