"""Promises 6.02, 6.09, 6.11, 6.12, 6.14: all lots of products by 2 and 3, for tables of two by two [9]."""

import itertools
import unittest

from drawnprograms import drawn_row
from helpers import all_figures, drawer, drawn_invertible, drawn_table, raised
from secondway import plainly_apart
from sparedproducts.blocks import square_pair
from sparedproducts.counts import fewest_of
from sparedproducts.figures import Figures
from sparedproducts.making import least_program
from sparedproducts.pairs import Pair, zero_pair
from sparedproducts.programs import Program, is_right
from sparedproducts.remainders import plain_remainder, remainder_program, run_remainder
from sparedproducts.searches import Lot, all_products, fewest_lots, independent_tables, led_places, numbers_for
from sparedproducts.searches import products_within, search_lots, search_program
from sparedproducts.solving import table_times
from sparedproducts.twins import only_one

SMALL = (Figures(2), Figures(3))
ZERO = ((0, 0), (0, 0))


def all_tables(prime):
    return [(cells[:2], cells[2:]) for cells in itertools.product(range(prime), repeat=4)]


def summed(prime, tables, numbers):
    """The sum of the tables, each times its number."""
    return tuple(tuple(sum(number * table[i][j] for number, table in zip(numbers, tables)) % prime for j in (0, 1))
                 for i in (0, 1))


def span(prime, tables):
    """All sums of the tables, by all numbers."""
    return {summed(prime, tables, numbers) for numbers in itertools.product(range(prime), repeat=len(tables))}


def couples(prime):
    return [couple for couple in itertools.product(range(prime), repeat=2)
            if couple[0] == 1 or couple == (0, 1)]


def product_table(prime, entry):
    u, v = entry
    return tuple(tuple(u[i] * v[j] % prime for j in (0, 1)) for i in (0, 1))


class Known:
    """The spans of all lots by a prime, so that tests may look them up."""

    def __init__(self, prime):
        self.prime = prime
        self.products = sorted(itertools.product(couples(prime), repeat=2))
        self.tables = [product_table(prime, entry) for entry in self.products]
        self.spans = {(): {ZERO}}

    def span_of(self, lot):
        if lot not in self.spans:
            ahead = self.span_of(lot[:-1])
            more = self.tables[lot[-1]]
            self.spans[lot] = {summed(self.prime, (one, more), (1, number)) for one in ahead
                               for number in range(self.prime)}
        return self.spans[lot]

    def fewest(self, tables):
        """All fewest lots by going through all lots."""
        for many in range(5):
            found = [lot for lot in itertools.combinations(range(len(self.products)), many)
                     if all(table in self.span_of(lot) for table in tables)]
            if found:
                return found
        raise AssertionError(tables)


KNOWN = {prime: Known(prime) for prime in (2, 3)}


def drawn_tables(figures, draw, many=None):
    many = many or draw.randint(1, 4)
    return [draw.choice((ZERO, drawn_table(figures, draw, 2, 2), drawn_table(figures, draw, 2, 2, 0.5)))
            for _ in range(many)]


def bad_tables(prime):
    """Things that are no tables, with the word that is told."""
    good = ((1, 0), (0, 1))
    cases = [(thing, "many") for thing in (None, (), [], "abc", 3, {}, (good,) * 5, (None,) * 5)]
    wrong = [None, (), ((1, 0),), (1, 0), ((1, 0), (0,)), ((1, 0), (0, 1), (0, 0)), ((1, 0, 0), (0, 1, 0)), ((1, prime), (0, 0)),
             ((True, 0), (0, 1)), ((1, 0), (0, -1)), ((1, None), (0, 1)), "ab", ("10", "01"), (((1, 1), 0), (0, 0))]
    return cases + [((thing,), "table") for thing in wrong] + [([good, thing, None], "table") for thing in wrong]


class ProductsTest(unittest.TestCase):

    def test_all_in_order(self):
        self.assertEqual([len(all_products(figures)) for figures in SMALL], [9, 16])
        for figures in SMALL:
            made = all_products(figures)
            self.assertEqual(list(made), KNOWN[figures.prime].products)
            self.assertIs(type(made), tuple)
        self.assertEqual(all_products(SMALL[0])[:4], (((0, 1), (0, 1)), ((0, 1), (1, 0)), ((0, 1), (1, 1)), ((1, 0), (0, 1))))

    def test_every_table_of_rank_one(self):
        for figures in SMALL:
            prime = figures.prime
            tables = [product_table(prime, entry) for entry in all_products(figures)]
            for table in all_tables(prime):
                many = sum(summed(prime, [one], [number]) == table for one in tables for number in range(1, prime))
                rank_one = table != ZERO and (table[0][0] * table[1][1] - table[0][1] * table[1][0]) % prime == 0
                self.assertEqual(many, int(rank_one))

    def test_other_figures(self):
        for figures in all_figures():
            if figures.prime in (2, 3):
                continue
            for deed, more in ((all_products, ()), (numbers_for, (None, None)), (search_lots, (None,)),
                               (independent_tables, (None,)), (products_within, (None,)), (first_lot, (None,)),
                               (led_places, (None, None, None))):
                self.assertEqual(raised(deed, figures, *more), ("NotSmall", ("figures",)))
            for rows, columns in ((2, 2), (1, 2), (2, 1)):
                self.assertEqual(raised(search_program, zero_pair(figures, rows, columns)), ("NotSmall", ("figures",)))

    def test_refusals_of_tables(self):
        for figures in SMALL:
            for thing, word in bad_tables(figures.prime):
                for deed, more in ((numbers_for, (None,)), (search_lots, ()), (independent_tables, ()),
                                   (products_within, ()), (first_lot, ())):
                    self.assertEqual(raised(deed, figures, thing, *more), ("NotSmall", (word,)))
            for rows, columns in ((1, 1), (1, 2), (2, 1), (2, 3), (3, 2)):
                if max(rows, columns) <= figures.prime:
                    self.assertEqual(raised(search_program, zero_pair(figures, rows, columns)), ("NotSmall", ("table",)))


def first_lot(figures, tables):
    return next(iter(fewest_lots(figures, tables)))


class NumbersTest(unittest.TestCase):

    def judge(self, figures, tables, products):
        prime = figures.prime
        made = numbers_for(figures, tables, products)
        kept = [product_table(prime, entry) for entry in products]
        within = span(prime, kept[:6]) if len(kept) < 7 else None
        if made is None:
            self.assertIsNotNone(within)
            self.assertTrue(any(tuple(map(tuple, table)) not in within for table in tables))
            return
        self.assertEqual((type(made), len(made)), (tuple, len(tables)))
        for table, numbers in zip(tables, made):
            self.assertEqual((type(numbers), len(numbers)), (tuple, len(products)))
            self.assertTrue(all(figures.is_number(number) for number in numbers))
            self.assertEqual(summed(prime, kept, numbers), tuple(map(tuple, table)))
        if within is not None:
            self.assertTrue(all(tuple(map(tuple, table)) in within for table in tables))

    def test_drawn_products(self):
        draw = drawer(421)
        for figures in SMALL:
            numbers = range(figures.prime)
            everything = [[list(u), v] for u in itertools.product(numbers, repeat=2)
                          for v in itertools.product(numbers, repeat=2)]
            for _ in range(60):
                products = [draw.choice(everything) for _ in range(draw.randint(0, 6))]
                self.judge(figures, [list(map(list, table)) for table in drawn_tables(figures, draw)], products)
                self.judge(figures, drawn_tables(figures, draw), tuple(map(tuple, products)))
            self.judge(figures, drawn_tables(figures, draw, 4), all_products(figures))
            self.judge(figures, drawn_tables(figures, draw, 4), (all_products(figures) * 2)[:16])

    def test_without_products(self):
        for figures in SMALL:
            self.assertEqual(numbers_for(figures, [ZERO] * 3, ()), ((), (), ()))
            self.assertEqual(numbers_for(figures, (ZERO,), []), ((),))
            self.assertIsNone(numbers_for(figures, (ZERO, ((0, 0), (0, 1))), ()))

    def test_refusals(self):
        good = ((1, 0), (1, 1))
        for figures in SMALL:
            wrong = [None, (), (1, 0), ((1, 0),), ((1, 0), (1,)), ((1, 0), (1, 1), (1, 0)), ((1, 0), (1, figures.prime)),
                     ((True, 0), (0, 1)), ((1, 0), None), "ab", ((1, 0, 0), (1, 0)), ((1, -1), (1, 1)), ((1, 1.0), (1, 1))]
            cases = [(None, 0), ("ab", 0), (3, 0), ({}, 0), ((good,) * 17, 16), ((None,) * 17, 16)]
            cases += [((thing,), 0) for thing in wrong] + [([good, list(good), thing, None], 2) for thing in wrong]
            cases += [((good,) * 15 + (thing,), 15) for thing in wrong]
            for products, index in cases:
                self.assertEqual(raised(numbers_for, figures, (ZERO,), products), ("BadProducts", (index,)))
                self.assertEqual(raised(numbers_for, figures, (), products), ("NotSmall", ("many",)))
            self.assertIsNone(raised(numbers_for, figures, (ZERO,), (good,) * 16))


class LotsTest(unittest.TestCase):

    def judge(self, figures, tables):
        prime, known = figures.prime, KNOWN[figures.prime]
        due = known.fewest([tuple(map(tuple, table)) for table in tables])
        made = list(fewest_lots(figures, tables))
        self.assertEqual(made, due)
        lot = search_lots(figures, tables)
        self.assertIsInstance(lot, Lot)
        self.assertEqual(lot.places, due[0])
        self.assertEqual(lot.products, tuple(known.products[place] for place in due[0]))
        self.assertEqual((type(lot.numbers), len(lot.numbers)), (tuple, len(tables)))
        for table, numbers in zip(tables, lot.numbers):
            self.assertEqual(type(numbers), tuple)
            self.assertEqual(summed(prime, [known.tables[place] for place in due[0]], numbers) if due[0] else ZERO,
                             tuple(map(tuple, table)))
            self.assertEqual(len(numbers), len(due[0]))
        self.assertEqual(lot.numbers, numbers_for(figures, tables, lot.products))
        self.judge_counts(figures, tables, due)

    def judge_counts(self, figures, tables, due):
        """What [9.5] says of the number of places."""
        prime, known = figures.prime, KNOWN[figures.prime]
        within = span(prime, tables)
        many = next(size for size in range(5) if prime ** size == len(within))
        self.assertEqual(independent_tables(figures, tables), many)
        places = tuple(place for place, table in enumerate(known.tables) if table in within)
        self.assertEqual(products_within(figures, tables), places)
        kept, enough = [], {ZERO}
        for place in places:
            if known.tables[place] not in enough:
                kept.append(known.tables[place])
                enough = span(prime, kept)
        self.assertIn(len(due[0]), (many, many + 1))
        if many == 1:
            table = next(table for table in tables if tuple(map(tuple, table)) != ZERO)
            bent = (table[0][0] * table[1][1] - table[0][1] * table[1][0]) % prime != 0
            self.assertEqual(len(due[0]), 1 + bent)
        elif many == 2:
            self.assertEqual(len(due[0]), 2 if len(places) >= 2 else 3)
        else:
            self.assertEqual(len(due[0]), many)
        self.assertEqual(len(due[0]) == many, enough == within)
        if enough == within:
            self.assertEqual(due, [lot for lot in itertools.combinations(places, many)
                                   if len(known.span_of(lot)) == prime ** many])

    def test_all_couples_of_tables_by_two(self):
        for tables in itertools.combinations_with_replacement(all_tables(2), 2):
            self.judge(SMALL[0], tables)

    def test_single_tables(self):
        for figures in SMALL:
            for table in all_tables(figures.prime):
                self.judge(figures, [table])

    def test_drawn_tables(self):
        draw = drawer(422)
        for figures in SMALL:
            for _ in range(25):
                self.judge(figures, drawn_tables(figures, draw))
            for many in (1, 4):
                self.judge(figures, [ZERO] * many)
                self.judge(figures, tuple([ZERO] * (many - 1) + [[[1, 0], [0, 1]]]))
            self.judge(figures, (((1, 0), (0, 0)), ((0, 1), (0, 0)), ((0, 0), (1, 0)), ((0, 0), (0, 1))))

    def test_example(self):
        tables = (((1, 0), (0, 1)), ((0, 1), (1, 1)))
        made = search_lots(SMALL[0], tables)
        self.assertEqual(made.places, (0, 4, 8))
        self.assertEqual(made.products, (((0, 1), (0, 1)), ((1, 0), (1, 0)), ((1, 1), (1, 1))))
        self.assertEqual(products_within(SMALL[0], tables), ())

    def test_the_same_span_has_the_same_lots(self):
        draw = drawer(423)
        for figures in SMALL:
            for _ in range(25):
                tables = drawn_tables(figures, draw)
                within = sorted(span(figures.prime, tables))
                others = [draw.choice(within) for _ in range(draw.randint(1, 4))]
                if len(span(figures.prime, others)) == len(within):
                    self.assertEqual(list(fewest_lots(figures, others)), list(fewest_lots(figures, tables)))
                turned = tables[::-1]
                self.assertEqual(list(fewest_lots(figures, turned)), list(fewest_lots(figures, tables)))

    def test_results_keep_what_they_are_given(self):
        made = Lot("a", [1], None)
        self.assertEqual((made.places, made.products, made.numbers), ("a", [1], None))
        self.assertFalse(made == Lot("a", [1], None))


class SearchTest(unittest.TestCase):

    def judge(self, given):
        figures = given.figures
        made = search_program(given)
        self.assertIsInstance(made, Program)
        self.assertTrue(is_right(given, made))
        lots = list(fewest_lots(figures, (given.first, given.second)))
        lot = search_lots(figures, (given.first, given.second))
        due = [entry + ends for entry, ends in zip(lot.products, zip(*lot.numbers))]
        self.assertEqual(made.products, tuple(due))
        # The search meets the fewest products of the blocks, and one lot only is one program only.
        self.assertEqual(len(made), fewest_of(given).number)
        self.assertEqual(len(made), len(least_program(given).program))
        self.assertEqual(only_one(given), len(lots) == 1)

    def test_all_pairs_by_two(self):
        for first, second in itertools.product(all_tables(2), repeat=2):
            self.judge(Pair(SMALL[0], first, second))

    def test_pairs_by_three(self):
        for first, second in list(itertools.product(all_tables(3), repeat=2))[::13]:
            self.judge(Pair(SMALL[1], first, second))

    def test_remainders_by_all_lots(self):
        # No lot of fewer products tells the remainders, and the search's program tells the same ones.
        draw = drawer(424)
        for figures in SMALL:
            prime, known = figures.prime, KNOWN[figures.prime]
            for below in itertools.product(range(prime), repeat=2):
                poly = below + (1,)
                given = square_pair(figures, poly)
                least = remainder_program(figures, poly)
                self.assertEqual(len(least), 2 + (not plainly_apart(figures, poly)))
                for lot in itertools.combinations(range(len(known.products)), len(least) - 1):
                    within = known.span_of(lot)
                    self.assertFalse(given.first in within and given.second in within)
                made = search_program(given)
                self.assertEqual(len(made), len(least))
                for _ in range(6):
                    taps, row = drawn_row(figures, draw, 2), drawn_row(figures, draw, 2)
                    due = run_remainder(least, poly, taps, row)
                    self.assertEqual(run_remainder(made, poly, taps, row), due)
                    product = (taps[0] * row[0] % prime, (taps[0] * row[1] + taps[1] * row[0]) % prime,
                               taps[1] * row[1] % prime)
                    self.assertEqual(plain_remainder(figures, poly, product), due)


class LedTest(unittest.TestCase):

    def led_by_hand(self, figures, places, left, right):
        known = KNOWN[figures.prime]
        made = []
        for place in places:
            table = table_times(figures, table_times(figures, left, known.tables[place]), right)
            found = [at for at, other in enumerate(known.tables)
                     if any(summed(figures.prime, [other], [number]) == table for number in range(1, figures.prime))]
            made += found
        return tuple(sorted(made))

    def test_lots_led(self):
        draw = drawer(425)
        for figures in SMALL:
            for _ in range(25):
                left, right = drawn_invertible(figures, draw, 2), drawn_invertible(figures, draw, 2)
                many = len(all_products(figures))
                places = sorted(draw.sample(range(many), draw.randint(0, many)))
                made = led_places(figures, places, left, right)
                self.assertEqual(made, self.led_by_hand(figures, places, left, right))
                self.assertIs(type(made), tuple)
                self.assertEqual(led_places(figures, tuple(places), list(map(list, left)), list(map(list, right))), made)
                tables = drawn_tables(figures, draw)
                turned = [table_times(figures, table_times(figures, left, table), right) for table in tables]
                due = sorted(led_places(figures, lot, left, right) for lot in fewest_lots(figures, tables))
                self.assertEqual(list(fewest_lots(figures, turned)), due)

    def test_refusals_in_their_order(self):
        unit, bent = ((1, 0), (0, 1)), ((1, 1), (1, 1))
        for figures in SMALL:
            many = len(all_products(figures))
            cases = [(None, 0), ("01", 0), (3, 0), ({}, 0), ((many,), 0), ((-1,), 0), ((0, many), 1), ((1, 1), 1), ([2, 1], 1),
                     ((0, True), 1), ((False,), 0), ((0, None, None), 1), ((0, 1, 1.0), 2), ((0, "1"), 1), ([[0]], 0)]
            for places, index in cases:
                for left, right in ((unit, unit), (None, None), (bent, bent)):
                    self.assertEqual(raised(led_places, figures, places, left, right), ("BadPlaces", (index,)))
            wrong = [(None, (0, "rows")), ((unit[0],), (0, "rows")), (unit + ((0, 0),), (0, "rows")),
                     (((1,), (0, 1)), (0, "columns")), (((1, 0), None), (1, "columns")), (((1, 0), (0, True)), (1, "number")),
                     (((figures.prime, 0), (0, 1)), (0, "number"))]
            for thing, due in wrong:
                for places in ((), (0, many - 1)):
                    self.assertEqual(raised(led_places, figures, places, thing, None), ("BadTable", due))
                    self.assertEqual(raised(led_places, figures, places, bent, thing), ("BadTable", due))
            for left, right in ((bent, unit), (unit, bent), (ZERO, unit)):
                self.assertEqual(raised(led_places, figures, (), left, right), ("NotOnce", ()))
            self.assertEqual(led_places(figures, (), unit, unit), ())
            self.assertEqual(led_places(figures, list(range(many)), unit, unit), tuple(range(many)))


if __name__ == "__main__":
    unittest.main()
