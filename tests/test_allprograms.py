"""Promises 3.11, 4.15, 4.20: no program is shorter than the fewest products [0.4], [0.5], [4.1] to [4.5], [4.12]."""

import itertools
import unittest

from drawnblocks import drawn_blocks, drawn_mixed, drawn_turned
from drawnprograms import any_program
from helpers import all_figures, drawer, drawn_number, drawn_pair, most_sides
from secondway import number_by_ranks, numbers_of_products
from sparedproducts.blocks import blocks_pair
from sparedproducts.counts import fewest_of, fewest_row
from sparedproducts.figures import Figures
from sparedproducts.making import least_program, plain_program
from sparedproducts.pairs import Pair
from sparedproducts.programs import Program, is_right
from sparedproducts.separate import separate_points, separate_program


def led_rows(prime, many):
    """All rows of numbers whose first number that is not zero is one."""
    return [row for row in itertools.product(range(prime), repeat=many)
            if next((number for number in row if number), 0) == 1]


def all_couples(prime, rows, columns):
    return [(u, v) for u in led_rows(prime, rows) for v in led_rows(prime, columns)]


def table_at(prime, rows, columns, place):
    cells = []
    for _ in range(rows * columns):
        cells.append(place % prime)
        place //= prime
    return tuple(tuple(cells[row * columns:(row + 1) * columns]) for row in range(rows))


def place_of(prime, cells):
    return sum(cell * prime ** at for at, cell in enumerate(cells))


def fewest_of_all(prime, rows, columns):
    """The fewest products of every pair of a size, by putting one product more to all that is reached."""
    many = prime ** (rows * columns)
    flat = [tuple(number for row in table_at(prime, rows, columns, place) for number in row) for place in range(many)]
    plus = [[place_of(prime, [(a + b) % prime for a, b in zip(one, other)]) for other in flat] for one in flat]
    moves = []
    for u, v in all_couples(prime, rows, columns):
        cells = [a * b % prime for a in u for b in v]
        scaled = [place_of(prime, [number * cell % prime for cell in cells]) for number in range(prime)]
        moves += [(scaled[c], scaled[d]) for c in range(prime) for d in range(prime) if c or d]
    found = {(0, 0): 0}
    level = [(0, 0)]
    while level:
        reached = []
        for one, other in level:
            for first, second in moves:
                place = (plus[one][first], plus[other][second])
                if place not in found:
                    found[place] = found[one, other] + 1
                    reached.append(place)
        level = reached
    assert len(found) == many * many
    return found


class SmallTest(unittest.TestCase):

    def judge(self, prime, rows, columns, step=1):
        figures = Figures(prime)
        for (one, other), number in list(fewest_of_all(prime, rows, columns).items())[::step]:
            given = Pair(figures, table_at(prime, rows, columns, one), table_at(prime, rows, columns, other))
            self.assertEqual(fewest_of(given).number, number)
            self.assertEqual(len(least_program(given).program), number)
            self.assertEqual(sum(cost for _, _, cost in fewest_row(given)), number)

    def test_all_pairs_by_two(self):
        for rows in (1, 2):
            for columns in (1, 2):
                self.judge(2, rows, columns)

    def test_pairs_by_three(self):
        for rows, columns in ((1, 1), (1, 2), (2, 1), (1, 3), (3, 1)):
            self.judge(3, rows, columns)
        self.judge(3, 2, 2, 11)

    def test_pairs_of_one_row_by_five(self):
        self.judge(5, 1, 1)
        self.judge(5, 1, 2, 7)
        self.judge(5, 2, 1, 7)


class LotsTest(unittest.TestCase):

    def no_lot_of_fewer(self, given):
        """No lot of fewer products, of all that there are by the prime, is right."""
        number = fewest_of(given).number
        couples = all_couples(given.figures.prime, given.rows, given.columns)
        if number:
            for lot in itertools.combinations(couples, number - 1):
                self.assertIsNone(numbers_of_products(given, lot))
        least = [entry[:2] for entry in least_program(given).program]
        self.assertIsNotNone(numbers_of_products(given, least))

    def test_all_lots_of_couples_by_small_primes(self):
        draw = drawer(261)
        for prime, rows, columns, many in ((3, 2, 3, 4), (3, 3, 2, 4), (5, 2, 2, 5), (7, 2, 2, 3), (2, 2, 2, 20)):
            figures = Figures(prime)
            for _ in range(many):
                self.no_lot_of_fewer(drawn_pair(figures, draw, rows, columns, 0.8))

    def test_a_pair_of_three_rows(self):
        # t (t + 1) and t, three products of nine cells, by all 1378 lots of two.
        figures = Figures(3)
        draw = drawer(262)
        given = drawn_turned(Pair(figures, ((1, 0, 0), (0, 1, 0), (0, 0, 1)), ((0, 0, 0), (0, 0, 0), (0, 0, 2))), draw)
        self.assertEqual(fewest_of(given).number, 3)
        for lot in itertools.combinations(all_couples(3, 3, 3)[::3], 2):
            self.assertIsNone(numbers_of_products(given, lot))

    def test_drawn_lots(self):
        draw = drawer(263)
        for figures in all_figures():
            for _ in range(6):
                given = drawn_pair(figures, draw, draw.randint(1, most_sides(figures)),
                                   draw.randint(1, most_sides(figures)), 0.7)
                number = fewest_of(given).number
                for _ in range(6):
                    lot = [(tuple(drawn_number(figures, draw) for _ in range(given.rows)),
                            tuple(drawn_number(figures, draw) for _ in range(given.columns)))
                           for _ in range(max(number - 1, 0))]
                    if number:
                        self.assertIsNone(numbers_of_products(given, lot))

    def test_products_left_out_are_missed(self):
        # Whatever the numbers c and d, a least program does not do without any of its products.
        draw = drawer(264)
        for figures in all_figures():
            for _ in range(8):
                given = drawn_turned(drawn_mixed(blocks_pair(figures, drawn_blocks(figures, draw)), draw), draw)
                couples = [entry[:2] for entry in least_program(given).program]
                due = numbers_of_products(given, couples)
                self.assertEqual(due, (tuple(entry[2] for entry in least_program(given).program),
                                       tuple(entry[3] for entry in least_program(given).program)))
                for place in range(len(couples)):
                    self.assertIsNone(numbers_of_products(given, couples[:place] + couples[place + 1:]))


class LongerTest(unittest.TestCase):

    def test_any_program(self):
        draw = drawer(265)
        for figures in all_figures():
            for _ in range(25):
                program = any_program(figures, draw)
                made = program.pair()
                number = fewest_of(made).number
                self.assertLessEqual(number, len(program.tidy()))
                self.assertEqual(number, number_by_ranks(made))
                self.assertTrue(is_right(made, program))

    def test_plain_and_separate_programs(self):
        draw = drawer(266)
        for figures in all_figures():
            for _ in range(10):
                given = drawn_turned(blocks_pair(figures, drawn_blocks(figures, draw)), draw)
                number = fewest_of(given).number
                self.assertLessEqual(number, len(plain_program(given)))
                self.assertLessEqual(number, len(separate_program(given, *separate_points(given))))

    def test_products_put_together_in_pairs(self):
        # Programs of k products whose numbers (c, d) are all alike up to size need the rank of one table alone.
        draw = drawer(267)
        for figures in all_figures():
            most = most_sides(figures)
            for _ in range(8):
                program = Program(figures, most, most, [
                    (tuple(drawn_number(figures, draw) for _ in range(most)),
                     tuple(drawn_number(figures, draw) for _ in range(most)), figures.one, figures.one)
                    for _ in range(draw.randint(0, 3))])
                self.assertLessEqual(fewest_of(program.pair()).number, len(program.tidy()))
                self.assertEqual(program.pair().first, program.pair().second)


if __name__ == "__main__":
    unittest.main()
