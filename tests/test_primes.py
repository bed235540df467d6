"""Promises 5.02, 5.03, 5.07, 5.12: readings by a prime, fewest products by primes, blocks that change [7.1] to [7.5]."""

import unittest

from drawnblocks import degrees, drawn_blocks, drawn_mixed, drawn_turned
from drawnprograms import drawn_program, idle_product, with_more
from helpers import PRIMES, drawer, drawn_invertible, drawn_number, drawn_pair, numbers, pair, raised
from secondway import number_by_ranks, plainly_apart
from sparedproducts import primes
from sparedproducts.blocks import blocks_of, blocks_pair, square_pair
from sparedproducts.bounds import high_bound, low_bound
from sparedproducts.counts import fewest_of
from sparedproducts.errors import BadNumber, NotOnce
from sparedproducts.figures import Figures
from sparedproducts.invariants import divisors_of
from sparedproducts.making import least_program, plain_program
from sparedproducts.pairs import Pair, zero_pair
from sparedproducts.polys import poly_over
from sparedproducts.primes import PrimeRow, change_of_blocks, fewest_by_prime, fewest_by_primes, pair_by_prime
from sparedproducts.primes import parting_primes, poly_by_prime, program_by_prime
from sparedproducts.programs import Program, is_right
from sparedproducts.separate import separate_points, separate_program
from sparedproducts.solving import undone_table
from test_discriminants import bad_fraction_polys, bad_primes, can_be_read, drawn_fraction_poly

FRACTIONS = Figures(0)


def rest_of(number, prime):
    """The rest of a ratio, by trial of all rests."""
    top, bottom = number
    return next(rest for rest in range(prime) if (rest * bottom - top) % prime == 0)


def rests_of(thing, prime):
    """Any tuple of tuples of ratios, number by number."""
    if isinstance(thing[0], tuple):
        return tuple(rests_of(part, prime) for part in thing)
    return rest_of(thing, prime)


def readable(prime, draw, make):
    """The first drawn thing that can be read by the prime."""
    while True:
        made = make(draw)
        if all(bottom % prime for bottom in bottoms_of(made)):
            return made


def bottoms_of(thing):
    if isinstance(thing, Pair):
        thing = (thing.first, thing.second)
    elif isinstance(thing, Program):
        thing = tuple((left, right, (c, d)) for left, right, c, d in thing)
    if thing and isinstance(thing[0], int):
        return [thing[1]]
    return [bottom for part in thing for bottom in bottoms_of(part)]


def drawn_sizes(prime, draw):
    most = min(5, prime)
    return draw.randint(1, most), draw.randint(1, most)


def readable_pair(prime, draw, filled=0.8):
    rows, columns = drawn_sizes(prime, draw)
    return readable(prime, draw, lambda draw: drawn_pair(FRACTIONS, draw, rows, columns, filled))


def reading(given, prime):
    return Pair(Figures(prime), rests_of(given.first, prime), rests_of(given.second, prime))


def lifted(given, draw, spread=2):
    """A pair of fractions whose reading is the given pair by a prime."""
    prime = given.figures.prime

    def cell(number):
        return number + prime * draw.randint(-spread, spread), 1
    return Pair(FRACTIONS, [[cell(number) for number in row] for row in given.first],
                [[cell(number) for number in row] for row in given.second])


class ReadingTest(unittest.TestCase):

    def test_constant(self):
        self.assertEqual(primes.PRIMES, (2, 3, 5, 7, 11, 13))

    def test_pairs_programs_and_polys_number_by_number(self):
        draw = drawer(331)
        for prime in PRIMES:
            figures = Figures(prime)
            for _ in range(15):
                given = readable_pair(prime, draw)
                made = pair_by_prime(given, prime)
                self.assertEqual((made.figures, made.first, made.second),
                                 (figures, rests_of(given.first, prime), rests_of(given.second, prime)))
                rows, columns = drawn_sizes(prime, draw)
                program = readable(prime, draw, lambda draw: drawn_program(FRACTIONS, draw, rows, columns,
                                                                            draw.randint(0, 6)))
                made = program_by_prime(program, prime)
                self.assertEqual((made.figures, made.rows, made.columns), (figures, rows, columns))
                due = [(rests_of(u, prime), rests_of(v, prime), rest_of(c, prime), rest_of(d, prime))
                       for u, v, c, d in program]
                # Products that do nothing, or nothing any more, stay.
                self.assertEqual(made.products, tuple(due))
                poly = readable(prime, draw, lambda draw: drawn_fraction_poly(draw, draw.randint(1, 5)))
                made = poly_by_prime(poly, prime)
                self.assertEqual(made, rests_of(poly, prime))
                self.assertEqual((type(made), made[-1]), (tuple, 1))
                self.assertEqual(poly_by_prime(list(poly), prime), made)
        self.assertEqual(poly_by_prime(numbers(FRACTIONS, (-1, 0, 0, 0, 3, 1)), 2), (1, 0, 0, 0, 1, 1))

    def test_programs_with_idle_products(self):
        program = Program(FRACTIONS, 1, 2, [(((5, 1),), ((0, 1), (5, 2)), (10, 1), (5, 1))])
        self.assertEqual(program_by_prime(program, 5).products, (((0,), (0, 0), 0, 0),))
        longest = Program(FRACTIONS, 1, 1, [(((1, 1),), ((1, 2),), (1, 3), (0, 1))] * 30)
        self.assertEqual(len(program_by_prime(longest, 13)), 30)
        self.assertEqual(program_by_prime(Program(FRACTIONS, 2, 2, ()), 2), Program(Figures(2), 2, 2, ()))

    def test_refusals_in_their_order(self):
        wide = drawn_pair(FRACTIONS, drawer(332), 5, 4)
        unread = pair(FRACTIONS, ((1, 2), ((1, 30030), 1), (1, 1)), ((1, 2), (1, 1), (1, 1)))
        deeds = ((pair_by_prime, lambda made: made), (program_by_prime, plain_program), (fewest_by_prime, lambda made: made),
                 (change_of_blocks, lambda made: made))
        for deed, make in deeds:
            for prime in PRIMES:
                given = make(zero_pair(Figures(prime), 1, 1))
                for other in (prime, 17, None, True):
                    self.assertEqual(raised(deed, given, other), ("NotFractions", ()))
            for prime in bad_primes():
                for given in (wide, unread, wide.flipped()):
                    self.assertEqual(raised(deed, make(given), prime), ("BadPrime", (0,)))
            for given, low in ((unread, 3), (wide, 5), (wide.flipped(), 5), (unread.flipped(), 3)):
                for prime in PRIMES:
                    due = None
                    if prime < low:
                        due = ("TooWide", ())
                    elif given in (unread, unread.flipped()):
                        due = ("BadNumber", ())
                    elif any(bottom % prime == 0 for bottom in bottoms_of(given)):
                        due = ("BadNumber", ())
                    self.assertEqual(raised(deed, make(given), prime), due)

    def test_a_bottom_anywhere_in_a_program(self):
        one, part = (1, 1), (1, 7)
        for u, v, c, d in ((part, one, one, one), (one, part, one, one), (one, one, part, one), (one, one, one, part)):
            program = Program(FRACTIONS, 2, 1, [((one, one), (one,), one, one), ((one, u), (v,), c, d)])
            self.assertEqual(raised(program_by_prime, program, 7), ("BadNumber", ()))
            self.assertIsNone(raised(program_by_prime, program, 5))
        for place in range(8):
            cells = [part if at == place else one for at in range(8)]
            given = Pair(FRACTIONS, (cells[:2], cells[2:4]), (cells[4:6], cells[6:]))
            self.assertEqual(raised(pair_by_prime, given, 7), ("BadNumber", ()))

    def test_refusals_of_polys(self):
        for thing, due in bad_fraction_polys():
            for prime in (5, 17, True, None):
                self.assertEqual(raised(poly_by_prime, thing, prime), ("BadPoly", due))
        unread = ((1, 2), (1, 30030), (1, 1))
        for prime in bad_primes():
            self.assertEqual(raised(poly_by_prime, unread, prime), ("BadPrime", (0,)))
        for prime in PRIMES:
            self.assertEqual(raised(poly_by_prime, unread, prime), ("BadNumber", ()))


class LedTest(unittest.TestCase):

    def invertible_there(self, prime, draw, size):
        while True:
            made = readable(prime, draw, lambda draw: drawn_invertible(FRACTIONS, draw, size))
            try:
                undone_table(Figures(prime), rests_of(made, prime))
                return made
            except NotOnce:
                pass

    def test_pairs(self):
        draw = drawer(333)
        for prime in PRIMES:
            figures = Figures(prime)
            for _ in range(6):
                given = readable_pair(prime, draw)
                left = self.invertible_there(prime, draw, given.rows)
                right = self.invertible_there(prime, draw, given.columns)
                mix = self.invertible_there(prime, draw, 2)
                made = pair_by_prime(given, prime)
                self.assertEqual(pair_by_prime(given.turned(left, right), prime),
                                 made.turned(rests_of(left, prime), rests_of(right, prime)))
                self.assertEqual(pair_by_prime(given.mixed(mix), prime), made.mixed(rests_of(mix, prime)))
                self.assertEqual(pair_by_prime(given.flipped(), prime), made.flipped())
                other = readable_pair(prime, draw)
                most = min(5, prime)
                if given.rows + other.rows <= most and given.columns + other.columns <= most:
                    self.assertEqual(pair_by_prime(given.beside(other), prime), made.beside(pair_by_prime(other, prime)))
                rows = sorted(draw.sample(range(given.rows), draw.randint(1, given.rows)))
                columns = sorted(draw.sample(range(given.columns), draw.randint(1, given.columns)))
                self.assertEqual(pair_by_prime(given.cut_out(rows, columns), prime), made.cut_out(rows, columns))
                x = readable(prime, draw, lambda draw: tuple(drawn_number(FRACTIONS, draw) for _ in range(given.rows)))
                y = readable(prime, draw, lambda draw: tuple(drawn_number(FRACTIONS, draw) for _ in range(given.columns)))
                due = tuple(figures.number_of(number) for number in given.answers(x, y))
                self.assertEqual(made.answers(rests_of(x, prime), rests_of(y, prime)), due)

    def test_beside(self):
        draw = drawer(334)
        for prime in PRIMES:
            one, other = [readable(prime, draw, lambda draw: drawn_pair(FRACTIONS, draw, 1, 1)) for _ in range(2)]
            self.assertEqual(pair_by_prime(one.beside(other), prime),
                             pair_by_prime(one, prime).beside(pair_by_prime(other, prime)))

    def test_programs(self):
        draw = drawer(335)
        for prime in PRIMES:
            for _ in range(6):
                rows, columns = drawn_sizes(prime, draw)
                program = readable(prime, draw, lambda draw: drawn_program(FRACTIONS, draw, rows, columns,
                                                                            draw.randint(0, 5)))
                made = program_by_prime(program, prime)
                self.assertEqual(pair_by_prime(program.pair(), prime), made.pair())
                self.assertTrue(is_right(pair_by_prime(program.pair(), prime), made))
                self.assertEqual(program_by_prime(program.flipped(), prime), made.flipped())
                mix = self.invertible_there(prime, draw, 2)
                self.assertEqual(program_by_prime(program.mixed(mix), prime), made.mixed(rests_of(mix, prime)))
                left = self.invertible_there(prime, draw, rows)
                right = self.invertible_there(prime, draw, columns)
                self.assertEqual(program_by_prime(program.led(left, right), prime),
                                 made.led(rests_of(left, prime), rests_of(right, prime)))


class FewestTest(unittest.TestCase):

    def pairs(self, seed, many):
        draw = drawer(seed)
        for _ in range(many):
            yield drawn_pair(FRACTIONS, draw, draw.randint(1, 5), draw.randint(1, 5), draw.choice((0.3, 0.8, 1)))
        for _ in range(many):
            yield drawn_turned(blocks_pair(FRACTIONS, drawn_blocks(FRACTIONS, draw)), draw)
        for degree in range(1, 6):
            yield square_pair(FRACTIONS, drawn_fraction_poly(draw, degree))
        yield zero_pair(FRACTIONS, 3, 1)
        yield pair(FRACTIONS, (((1, 30030), 1),), ((0, 1),))

    def test_each_prime_and_why_not(self):
        draw = drawer(336)
        met = set()
        for given in self.pairs(337, 12):
            due = []
            for prime in PRIMES:
                if max(given.rows, given.columns) > prime:
                    due.append((prime, None, "wide"))
                elif any(bottom % prime == 0 for bottom in bottoms_of(given)):
                    due.append((prime, None, "number"))
                    self.assertEqual(raised(fewest_by_prime, given, prime), ("BadNumber", ()))
                else:
                    number = number_by_ranks(reading(given, prime))
                    self.assertEqual(fewest_by_prime(given, prime), number)
                    due.append((prime, number, None))
            met.update(why for _, _, why in due)
            made = fewest_by_primes(given, PRIMES)
            self.assertIs(type(made), tuple)
            self.assertTrue(all(isinstance(row, PrimeRow) for row in made))
            self.assertEqual([(row.prime, row.number, row.why) for row in made], due)
            order = draw.sample(range(6), draw.randint(1, 6))
            made = fewest_by_primes(given, [PRIMES[at] for at in order])
            self.assertEqual([(row.prime, row.number, row.why) for row in made], [due[at] for at in order])
            number = fewest_of(given).number
            self.assertEqual(parting_primes(given), tuple(prime for prime, less, why in due[2:]
                                                          if why is None and less != number))
        self.assertEqual(met, {None, "wide", "number"})

    def test_refusals(self):
        given = pair(FRACTIONS, (((1, 30030), 1, 1),), ((0, 1, 1),))
        one = zero_pair(Figures(5), 1, 1)
        for thing in (PRIMES, None, (), (4,)):
            self.assertEqual(raised(fewest_by_primes, one, thing), ("NotFractions", ()))
        self.assertEqual(raised(parting_primes, one), ("NotFractions", ()))
        cases = [(None, 0), ((), 0), ([], 0), (5, 0), ("25", 0), ({2: 3}, 0), ((2, 2), 1), ((5, 3, 5, 9), 2),
                 ((2, 3, 5, 7, 11, 13, 2), 6), (PRIMES + (17,), 6), ((13, True), 1), ((2, 3, None), 2)]
        cases += [((3, thing), 1) for thing in bad_primes()] + [((thing, 3, 3), 0) for thing in bad_primes()]
        for thing, index in cases:
            self.assertEqual(raised(fewest_by_primes, given, thing), ("BadPrime", (index,)))

    def test_programs_of_fractions_by_primes(self):
        # Right there, and no shorter than the fewest; bounds never rise.
        draw = drawer(338)
        for given in self.pairs(339, 8):
            programs = [least_program(given).program, plain_program(given),
                        separate_program(given, *separate_points(given))]
            programs.append(with_more(programs[0], idle_product(FRACTIONS, given.rows, given.columns)))
            for prime in PRIMES:
                if max(given.rows, given.columns) > prime or any(bottom % prime == 0 for bottom in bottoms_of(given)):
                    continue
                made = pair_by_prime(given, prime)
                self.assertLessEqual(low_bound(made), low_bound(given))
                self.assertLessEqual(high_bound(made), high_bound(given))
                for program in programs:
                    try:
                        other = program_by_prime(program, prime)
                    except BadNumber:
                        continue
                    self.assertTrue(is_right(made, other))
                    self.assertLessEqual(fewest_by_prime(given, prime), len(program.tidy()))
                    self.assertLessEqual(fewest_by_prime(given, prime), len(other.tidy()))
        for prime in PRIMES:
            for _ in range(8):
                rows, columns = drawn_sizes(prime, draw)
                program = readable(prime, draw, lambda draw: drawn_program(FRACTIONS, draw, rows, columns,
                                                                            draw.randint(0, 5)))
                self.assertLessEqual(fewest_by_prime(program.pair(), prime), len(program_by_prime(program, prime).tidy()))

    def test_above_and_below(self):
        falling = square_pair(FRACTIONS, numbers(FRACTIONS, (0, -5, 1)))
        apart = square_pair(FRACTIONS, numbers(FRACTIONS, (1, 0, 1)))
        self.assertEqual((fewest_of(falling).number, fewest_by_prime(falling, 5)), (2, 3))
        self.assertEqual((fewest_of(apart).number, fewest_by_prime(apart, 5)), (3, 2))
        self.assertEqual((parting_primes(falling), parting_primes(apart)), ((5,), (5, 13)))


class ChangeTest(unittest.TestCase):

    def word(self, given, prime):
        """By the blocks of both pairs, in the order of [7.5]."""
        one, other = blocks_of(given), blocks_of(reading(given, prime))
        for word, names in (("idle", ("idle_rows", "idle_columns")), ("lying", ("lying",)), ("standing", ("standing",))):
            if any(getattr(one, name) != getattr(other, name) for name in names):
                return word
        return None if degrees(one.polys) == degrees(other.polys) else "row"

    def judge(self, given, prime):
        made = change_of_blocks(given, prime)
        self.assertEqual(made, self.word(given, prime))
        if made is None:
            # The numbers differ as the extras do.
            one, other = fewest_of(given), fewest_of(pair_by_prime(given, prime))
            extras = [sum(not plainly_apart(kept.figures, poly) for poly in blocks_of(kept).polys)
                      for kept in (given, pair_by_prime(given, prime))]
            self.assertEqual(other.number - one.number, extras[1] - extras[0])
            self.assertEqual(other.number - one.number, len(other.extras) - len(one.extras))
        return made

    def test_pairs_over_blocks_by_a_prime(self):
        draw = drawer(340)
        met = {}
        for prime in PRIMES:
            figures = Figures(prime)
            for _ in range(40):
                there = drawn_turned(drawn_mixed(blocks_pair(figures, drawn_blocks(figures, draw)), draw), draw)
                given = lifted(there, draw, draw.choice((0, 1)))
                self.assertEqual(pair_by_prime(given, prime), there)
                made = self.judge(given, prime)
                met[made] = met.get(made, 0) + 1
        self.assertLessEqual({"idle", "lying", "standing", None}, set(met))

    def test_each_word(self):
        # A row is lost altogether by 5.
        for first, second in ((((5,),), ((0,),)), (((1, 0), (0, 5)), ((0, 0), (0, 5)))):
            self.assertEqual(change_of_blocks(pair(FRACTIONS, first, second), 5), "idle")
        # By 5 lying blocks of other sizes than in fractions.
        figures = Figures(5)
        other = pair(figures, ((1, 0, 0, 0), (0, 0, 1, 0), (0, 0, 0, 1)), ((0, 1, 0, 0), (0, 0, 0, 1), (0, 0, 0, 0)))
        met = set()
        draw = drawer(341)
        for _ in range(30):
            made = lifted(other, draw, 1)
            met.add(self.judge(made, 5))
            met.add(self.judge(made.flipped(), 5))
        self.assertLessEqual({"lying", "standing"}, met)
        # The second poly of the row joins the first one: (t - 1) and (t - 1) by 5, (t - 1)(t - 6) in fractions.
        given = pair(FRACTIONS, ((1, 0), (0, 1)), ((1, 0), (0, 6)))
        self.assertEqual(self.judge(given, 5), "row")
        self.assertIsNone(self.judge(given, 7))

    def test_idle_ahead_of_the_others(self):
        # Everything falls to nothing: idle rows and lying blocks differ, and idle is told.
        given = pair(FRACTIONS, ((5, 0), (0, 0)), ((0, 5), (0, 0)))
        self.assertEqual(change_of_blocks(given, 5), "idle")
        self.assertIsNone(change_of_blocks(given, 7))

    def test_another_mix_is_no_change(self):
        # By 5 the first table loses its rank at 0, so the mix is that of another point.
        given = pair(FRACTIONS, ((5, 0), (0, 1)), ((1, 0), (0, 3)))
        self.assertEqual(blocks_of(given).mix[0][1], (0, 1))
        self.assertEqual(blocks_of(pair_by_prime(given, 5)).mix[0], (1, 1))
        self.assertIsNone(self.judge(given, 5))

    def test_divisors(self):
        draw = drawer(342)
        for prime in PRIMES:
            figures = Figures(prime)
            for _ in range(12):
                there = drawn_turned(blocks_pair(figures, drawn_blocks(figures, draw)), draw)
                given = lifted(there, draw, 1)
                one, other = divisors_of(given), divisors_of(there)
                self.assertLessEqual(len(other), len(one))
                for divisor, less in zip(one, other):
                    if can_be_read(divisor, prime):
                        self.assertEqual(poly_over(figures, less, rests_of(divisor, prime))[1], ())

    def test_square_pairs(self):
        draw = drawer(343)
        for prime in PRIMES:
            figures = Figures(prime)
            for degree in range(1, min(5, prime) + 1):
                for _ in range(6):
                    poly = readable(prime, draw, lambda draw: drawn_fraction_poly(draw, degree))
                    given = square_pair(FRACTIONS, poly)
                    self.assertIsNone(self.judge(given, prime))
                    apart = plainly_apart(figures, poly_by_prime(poly, prime))
                    self.assertEqual(fewest_by_prime(given, prime), degree + (not apart))

    def test_results_keep_what_they_are_given(self):
        made = PrimeRow("a", [1], None)
        self.assertEqual((made.prime, made.number, made.why), ("a", [1], None))
        self.assertFalse(made == PrimeRow("a", [1], None))


if __name__ == "__main__":
    unittest.main()
