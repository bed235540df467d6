"""Promises 5.05, 5.06, 5.09, 5.13, 5.14, 6.17: joined pairs, groups, pieces, cut-outs, joined polys [8.1] to [8.5]."""

import itertools
import unittest

from drawnblocks import drawn_blocks, drawn_kinds, drawn_mixed, drawn_turned
from helpers import all_figures, drawer, drawn_pair, most_sides, numbers, pair, raised
from secondway import due_number, number_by_ranks
from sparedproducts.blocks import blocks_of, blocks_pair, square_pair
from sparedproducts.counts import extra_of, fewest_of
from sparedproducts.factors import comes_apart
from sparedproducts.figures import Figures
from sparedproducts.invariants import joined_row
from sparedproducts.joining import Groups, Piece, all_cut_outs, best_groups, joined_pairs, pieces_of, spared_by
from sparedproducts.joining import spared_steps, spared_within
from sparedproducts.making import least_program
from sparedproducts.pairs import zero_pair
from sparedproducts.polys import poly_common, poly_of_roots, poly_times
from sparedproducts.programs import is_right

BAD_ROOMS = (0, -1, 6, True, False, None, "2", 2.0, (2,), 10 ** 20)


def corner_table(figures, tables):
    """Cell by cell: a number of its own table at the corners, else zero."""
    wide = sum(len(table[0]) for table in tables)
    made, ahead = [], 0
    for table in tables:
        for row in table:
            line = [figures.zero] * wide
            line[ahead:ahead + len(row)] = row
            made.append(tuple(line))
        ahead += len(table[0])
    return tuple(made)


def drawn_fitting(figures, draw, most=5):
    """One to five pairs that fit corner to corner."""
    room = most_sides(figures)
    while True:
        many = draw.randint(1, min(most, room))
        pairs = [drawn_pair(figures, draw, draw.randint(1, 3), draw.randint(1, 3), draw.choice((0, 0.5, 1)))
                 for _ in range(many)] if room >= 3 else [drawn_pair(figures, draw, 1, 1, 0.7) for _ in range(many)]
        if sum(one.rows for one in pairs) <= room and sum(one.columns for one in pairs) <= room:
            return pairs


def drawn_factors(figures, draw, degree):
    """A poly of the degree as a product of drawn ones, so that two such often have a common divisor."""
    small = [(figures.zero, figures.one), numbers(figures, (1, 1)), numbers(figures, (2, 1)), numbers(figures, (1, 0, 1)),
             numbers(figures, (1, 1, 1)), numbers(figures, (2, 0, 1))]
    poly = (figures.one,)
    while len(poly) - 1 < degree:
        factor = draw.choice(small)
        if len(poly) + len(factor) - 2 <= degree:
            poly = poly_times(figures, poly, factor)
    return poly


def not_pairs(figures):
    """Things that are no sequence of one to five pairs."""
    one = zero_pair(figures, 1, 1)
    return [None, (), [], one, "pairs", 3, {}, (one,) * 6, (one, None), [None, one], (one, (one,)), (one, "x"),
            (one, least_program(one).program), (blocks_of(one),), ([one],), (one, one, one, one, True)]


class JoinedTest(unittest.TestCase):

    def test_cell_by_cell(self):
        draw = drawer(361)
        for figures in all_figures():
            for _ in range(12):
                pairs = drawn_fitting(figures, draw)
                made = joined_pairs(pairs)
                self.assertEqual(made.first, corner_table(figures, [one.first for one in pairs]))
                self.assertEqual(made.second, corner_table(figures, [one.second for one in pairs]))
                self.assertEqual(made.figures, figures)
                self.assertEqual(joined_pairs(tuple(pairs)), made)
                self.assertEqual(joined_pairs([pairs[0]]), pairs[0])

    def test_as_many_as_fit(self):
        for figures in all_figures():
            most = most_sides(figures)
            ones = [pair(figures, ((1,),), ((many,),)) for many in range(most)]
            made = joined_pairs(ones)
            self.assertEqual((made.rows, made.columns), (most, most))
            if most == 5:
                self.assertEqual(raised(joined_pairs, ones + ones[:1]), ("BadPairs", ()))
            else:
                self.assertEqual(raised(joined_pairs, ones + ones[:1]), ("BadPair", ("wide",)))

    def test_refusals_in_their_order(self):
        for figures in all_figures():
            other = Figures(7 if figures.prime != 7 else 0)
            most = most_sides(figures)
            wide, one, alien = zero_pair(figures, most, most), zero_pair(figures, 1, 1), zero_pair(other, 1, 1)
            for deed in (joined_pairs, spared_by, spared_steps):
                for thing in not_pairs(figures):
                    self.assertEqual(raised(deed, thing), ("BadPairs", ()))
                # No pair and other figures at once; other figures and too wide at once.
                self.assertEqual(raised(deed, (one, alien, None)), ("BadPairs", ()))
                self.assertEqual(raised(deed, (wide, wide, alien)), ("Unlike", ()))
                self.assertEqual(raised(deed, (alien, wide, wide)), ("Unlike", ()))
                self.assertEqual(raised(deed, [one, alien]), ("Unlike", ()))
                due = "size" if most == 5 else "wide"
                for pairs in ((wide, one), (one, wide), (one, wide, one)):
                    self.assertEqual(raised(deed, pairs), ("BadPair", (due,)))
                self.assertIsNone(raised(deed, (wide,)))
        three = Figures(3)
        both = (zero_pair(three, 3, 1), zero_pair(three, 3, 1))
        self.assertEqual(raised(joined_pairs, both), ("BadPair", ("size",)))
        # The pair that no longer fits first is told: too wide for 3 ahead of more than five.
        self.assertEqual(raised(joined_pairs, (zero_pair(three, 2, 1),) * 3), ("BadPair", ("wide",)))
        self.assertEqual(raised(joined_pairs, (zero_pair(three, 3, 1), zero_pair(three, 3, 1))), ("BadPair", ("size",)))


class SparedTest(unittest.TestCase):

    def judge(self, figures, pairs):
        joined = joined_pairs(pairs)
        alone = [fewest_of(one).number for one in pairs]
        made = spared_by(pairs)
        self.assertEqual(made, sum(alone) - number_by_ranks(joined))
        self.assertGreaterEqual(made, 0)
        # It is the sum of the extras of the pairs less the extras of the joined pair.
        extras = [len(fewest_of(one).extras) for one in list(pairs) + [joined]]
        self.assertEqual(made, sum(extras[:-1]) - extras[-1])
        steps = spared_steps(pairs)
        due = [sum(alone[:many]) - fewest_of(joined_pairs(pairs[:many])).number for many in range(1, len(pairs) + 1)]
        self.assertEqual(steps, tuple(due[place] - due[place - 1] for place in range(1, len(pairs))))
        self.assertEqual((type(steps), sum(steps)), (tuple, made))
        self.assertTrue(is_right(joined, least_program(joined).program))
        self.assertEqual(len(least_program(joined).program), sum(alone) - made)
        return made

    def test_drawn_pairs_in_any_order(self):
        draw = drawer(362)
        for figures in all_figures():
            for _ in range(10):
                pairs = drawn_fitting(figures, draw)
                made = self.judge(figures, pairs)
                for order in itertools.islice(itertools.permutations(pairs), 5):
                    self.assertEqual(self.judge(figures, order), made)

    def test_pairs_of_polys(self):
        # A block for each poly, turned and joined; the row of the joined pair is the joined row of the polys.
        draw = drawer(363)
        met = set()
        for figures in all_figures():
            most = most_sides(figures)
            for _ in range(12):
                polys = []
                while sum(len(poly) - 1 for poly in polys) < most - 1 and len(polys) < 4:
                    degree = draw.randint(1, min(3, most - sum(len(poly) - 1 for poly in polys)))
                    polys.append(drawn_factors(figures, draw, degree))
                pairs = [drawn_turned(square_pair(figures, poly), draw) for poly in polys]
                joined = joined_pairs(pairs)
                row = joined_row(figures, polys)
                self.assertEqual(blocks_of(joined).polys, row)
                made = self.judge(figures, pairs)
                due = sum(comes_apart(figures, poly) is None for poly in polys)
                due -= sum(comes_apart(figures, poly) is None for poly in row)
                self.assertEqual(made, due)
                self.assertEqual(made, extra_of(figures, polys) - extra_of(figures, row))
                met.add(made)
        self.assertLessEqual({0, 1}, met)

    def test_two_polys_spare_exactly_as_told(self):
        draw = drawer(364)
        met = set()
        for figures in all_figures():
            most = most_sides(figures)
            for _ in range(30):
                first = draw.randint(1, most - 1)
                polys = [drawn_factors(figures, draw, first), drawn_factors(figures, draw, draw.randint(1, most - first))]
                apart = [comes_apart(figures, poly) is not None for poly in polys]
                common = comes_apart(figures, poly_common(figures, *polys)) is not None
                due = int(not any(apart) and common)
                self.assertEqual(spared_by([square_pair(figures, poly) for poly in polys]), due)
                met.add((tuple(apart), common, due))
        self.assertLessEqual({((False, False), True, 1), ((False, False), False, 0), ((True, False), True, 0)}, met)

    def test_lying_and_standing_blocks_spare_nothing(self):
        draw = drawer(365)
        for figures in all_figures():
            for _ in range(10):
                one, other = drawn_blocks(figures, draw), drawn_blocks(figures, draw)
                pairs = [blocks_pair(figures, one), blocks_pair(figures, other)]
                fits = all(sum(sides) <= most_sides(figures) for sides in
                           zip(*[(given.rows, given.columns) for given in pairs]))
                if fits:
                    made = self.judge(figures, pairs)
                    self.assertEqual(due_number(figures, one) + due_number(figures, other) - made,
                                     fewest_of(joined_pairs(pairs)).number)
                    if not one.polys or not other.polys:
                        self.assertEqual(made, 0)

    def test_zeros_and_idle_ones(self):
        for figures in all_figures():
            zero = zero_pair(figures, 1, 1)
            self.assertEqual((spared_by([zero]), spared_steps([zero])), (0, ()))
            self.assertEqual((spared_by([zero] * 2), spared_steps((zero,) * 2)), (0, (0,)))

    def test_examples(self):
        figures = Figures(0)
        plus_one, plus_two = [square_pair(figures, numbers(figures, (many, 0, 1))) for many in (1, 2)]
        self.assertEqual(spared_by((plus_one, plus_two)), 1)
        self.assertEqual(spared_by((plus_one, plus_one)), 0)
        one, two = [square_pair(figures, poly_of_roots(figures, numbers(figures, roots))) for roots in ((1, 1), (1, 1))]
        self.assertEqual(spared_by((one, two)), 0)
        # (t - 1) ** 2 (t - 2) beside (t - 2) ** 2: their common divisor t - 2 comes apart.
        one, two = [square_pair(figures, poly_of_roots(figures, numbers(figures, roots))) for roots in ((1, 1, 2), (2, 2))]
        self.assertEqual((spared_by((one, two)), spared_steps((one, two)), spared_steps((two, one))), (1, (1,), (1,)))

    def test_three_polys(self):
        figures = Figures(0)
        polys = [numbers(figures, poly) for poly in ((1, 0, 1), (0, 1), (2, 0, 1))]
        pairs = [square_pair(figures, poly) for poly in polys]
        self.assertEqual(spared_steps(pairs), (0, 1))
        self.assertEqual(spared_steps([pairs[0], pairs[2], pairs[1]]), (1, 0))
        self.assertEqual(joined_row(figures, polys), (numbers(figures, (0, 2, 0, 3, 0, 1)),))


class PiecesTest(unittest.TestCase):

    def linked(self, given):
        """Sets of rows and columns that hang together, by joining them cell by cell."""
        found = []
        for i in range(given.rows):
            for j in range(given.columns):
                if given.first[i][j] != given.figures.zero or given.second[i][j] != given.figures.zero:
                    new = {("row", i), ("column", j)}
                    for old in [old for old in found if old & new]:
                        found.remove(old)
                        new |= old
                    found.append(new)
        parts = [tuple(tuple(sorted(at for word, at in part if word == side)) for side in ("row", "column")) for part in found]
        return sorted(parts)

    def judge(self, given):
        made = pieces_of(given)
        self.assertIs(type(made), tuple)
        self.assertEqual([(piece.rows, piece.columns) for piece in made], self.linked(given))
        for piece in made:
            self.assertIsInstance(piece, Piece)
            self.assertEqual((type(piece.rows), type(piece.columns)), (tuple, tuple))
            self.assertEqual(piece.cut, given.cut_out(piece.rows, piece.columns))
        due = sum(number_by_ranks(piece.cut) for piece in made) - fewest_of(given).number
        self.assertEqual(spared_within(given), due if made else 0)
        self.assertGreaterEqual(due, 0)
        return made

    def test_drawn_pairs(self):
        draw = drawer(366)
        counts = set()
        for figures in all_figures():
            for _ in range(40):
                rows, columns = draw.randint(1, most_sides(figures)), draw.randint(1, most_sides(figures))
                counts.add(len(self.judge(drawn_pair(figures, draw, rows, columns, draw.choice((0.1, 0.2, 0.3, 0.9))))))
        self.assertLessEqual({0, 1, 2, 3}, counts)

    def test_pairs_joined_and_put_into_another_order(self):
        draw = drawer(367)
        for figures in all_figures():
            for _ in range(10):
                given = joined_pairs(drawn_fitting(figures, draw))
                self.judge(given)
                rows, columns = [draw.sample(range(many), many) for many in (given.rows, given.columns)]
                first, second = [[[table[i][j] for j in columns] for i in rows] for table in (given.first, given.second)]
                moved = type(given)(figures, first, second)
                self.assertEqual(len(self.judge(moved)), len(pieces_of(given)))
                self.assertEqual(spared_within(moved), spared_within(given))

    def test_what_the_pieces_need_more(self):
        figures = Figures(0)
        given = joined_pairs([square_pair(figures, numbers(figures, (many, 0, 1))) for many in (1, 2)])
        self.assertEqual(spared_within(given), 1)
        self.assertEqual([piece.rows for piece in self.judge(given)], [(0, 1), (2, 3)])

    def test_linked_by_either_table(self):
        for figures in all_figures():
            given = pair(figures, ((1, 0), (0, 0)), ((0, 1), (0, 1)))
            made = self.judge(given)
            self.assertEqual([(piece.rows, piece.columns) for piece in made], [((0, 1), (0, 1))])
            given = pair(figures, ((0, 0), (1, 0)), ((0, 1), (0, 0)))
            self.assertEqual([(piece.rows, piece.columns) for piece in self.judge(given)], [((0,), (1,)), ((1,), (0,))])

    def test_zeros(self):
        for figures in all_figures():
            given = zero_pair(figures, 2, 1)
            self.assertEqual((pieces_of(given), spared_within(given)), ((), 0))

    def test_results_keep_what_they_are_given(self):
        made = Piece("a", [1], None)
        self.assertEqual((made.rows, made.columns, made.cut), ("a", [1], None))
        self.assertFalse(made == Piece("a", [1], None))
        made = Groups([2], "b")
        self.assertEqual((made.groups, made.number), ([2], "b"))
        self.assertFalse(made == Groups([2], "b"))


class GroupsTest(unittest.TestCase):

    def all_groups(self, many):
        """Partings by giving each place a word, and each parting once."""
        found = set()
        for words in itertools.product(range(many), repeat=many):
            groups = {}
            for place, word in enumerate(words):
                groups.setdefault(word, []).append(place)
            found.add(tuple(sorted(tuple(group) for group in groups.values())))
        return found

    def due(self, figures, pairs, room):
        limit = min(room, figures.prime) if figures.prime else room
        ranked = []
        for groups in self.all_groups(len(pairs)):
            members = [[pairs[place] for place in group] for group in groups]
            if all(sum(one.rows for one in group) <= limit and sum(one.columns for one in group) <= limit
                   for group in members):
                total = sum(number_by_ranks(joined_pairs(group)) for group in members)
                ranked.append((total, len(groups), groups))
        return min(ranked) if ranked else None

    def judge(self, figures, pairs, room):
        made = best_groups(pairs, room)
        due = self.due(figures, pairs, room)
        if due is None:
            self.assertIsNone(made)
        else:
            self.assertIsInstance(made, Groups)
            self.assertEqual((made.number, made.groups), (due[0], due[2]))
        return made

    def test_drawn_pairs(self):
        draw = drawer(368)
        for figures in all_figures():
            most = most_sides(figures)
            for _ in range(6):
                pairs = [drawn_pair(figures, draw, draw.randint(1, min(2, most)), draw.randint(1, min(2, most)),
                                    draw.choice((0.5, 1))) for _ in range(draw.randint(1, 4))]
                for room in range(1, 6):
                    self.judge(figures, pairs, room)

    def test_polys_that_spare(self):
        draw = drawer(369)
        spared = 0
        for figures in all_figures():
            most = most_sides(figures)
            for many in (2, 3, 4):
                polys = [drawn_factors(figures, draw, draw.choice((1, 2, 2))) for _ in range(many)]
                pairs = [square_pair(figures, poly) for poly in polys]
                made = self.judge(figures, pairs, most)
                spared += sum(fewest_of(one).number for one in pairs) - made.number
        self.assertGreater(spared, 0)

    def test_ties(self):
        # Nothing is spared anywhere, so as few groups as fit, and the least tuple of these.
        figures = Figures(0)
        ones = [pair(figures, ((1,),), ((many,),)) for many in range(5)]
        self.assertEqual(best_groups(ones, 5).groups, ((0, 1, 2, 3, 4),))
        self.assertEqual(best_groups(ones, 3).groups, ((0, 1), (2, 3, 4)))
        self.assertEqual(best_groups(ones, 1).groups, ((0,), (1,), (2,), (3,), (4,)))
        self.assertEqual(best_groups(ones, 2).groups, ((0,), (1, 2), (3, 4)))
        self.assertEqual(best_groups(ones[:1], 1).groups, ((0,),))
        self.assertEqual([best_groups(ones, room).number for room in (1, 2, 5)], [5, 5, 5])

    def test_fewer_products_ahead_of_fewer_groups(self):
        figures = Figures(0)
        pairs = [square_pair(figures, numbers(figures, poly)) for poly in ((1, 0, 1), (1, 0, 1), (2, 0, 1), (2, 0, 1))]
        made = self.judge(figures, pairs, 4)
        self.assertEqual((made.groups, made.number), (((0, 2), (1, 3)), 10))

    def test_the_prime_is_room_too(self):
        figures = Figures(3)
        ones = [pair(figures, ((1,),), ((0,),))] * 5
        self.assertEqual(best_groups(ones, 5).groups, ((0, 1), (2, 3, 4)))
        self.assertEqual(best_groups([zero_pair(Figures(2), 2, 1)] * 2, 5).groups, ((0,), (1,)))

    def test_none_fits(self):
        for figures in all_figures():
            one = zero_pair(figures, 1, 2)
            for pairs in ((one,), (zero_pair(figures, 1, 1), one), (one.flipped(), zero_pair(figures, 1, 1))):
                self.assertIsNone(best_groups(pairs, 1))
                self.assertIsNotNone(best_groups(pairs, 2))

    def test_refusals_in_their_order(self):
        for figures in all_figures():
            one = zero_pair(figures, 1, 1)
            alien = zero_pair(Figures(7 if figures.prime != 7 else 0), 1, 1)
            for thing in not_pairs(figures):
                for room in (5, None):
                    self.assertEqual(raised(best_groups, thing, room), ("BadPairs", ()))
            for room in BAD_ROOMS:
                for pairs in ((one,), (one, alien)):
                    self.assertEqual(raised(best_groups, pairs, room), ("BadSize", ()))
            for room in (1, 5):
                self.assertEqual(raised(best_groups, [one, alien], room), ("Unlike", ()))
            # Too wide for the room and other figures at once.
            wide = zero_pair(figures, 2, 2)
            self.assertEqual(raised(best_groups, [wide, alien], 1), ("Unlike", ()))


class CutOutsTest(unittest.TestCase):

    def test_all_choices_in_order(self):
        draw = drawer(370)
        for figures, _, given in drawn_kinds(371, 4):
            number = fewest_of(given).number
            for rows in range(1, given.rows + 1):
                for columns in range(1, given.columns + 1):
                    made = list(all_cut_outs(given, rows, columns))
                    due = list(itertools.product(itertools.combinations(range(given.rows), rows),
                                                 itertools.combinations(range(given.columns), columns)))
                    self.assertEqual([(piece.rows, piece.columns) for piece in made], due)
                    lost = 2 * (given.rows - rows + given.columns - columns)
                    for piece in draw.sample(made, min(3, len(made))):
                        self.assertIsInstance(piece, Piece)
                        self.assertEqual(piece.cut, given.cut_out(piece.rows, piece.columns))
                        self.assertTrue(number - lost <= fewest_of(piece.cut).number <= number)

    def test_one_row_or_column_less(self):
        most_lost = 0
        for figures, _, given in drawn_kinds(372, 5):
            number = fewest_of(given).number
            for rows, columns in ((given.rows - 1, given.columns), (given.rows, given.columns - 1)):
                if rows and columns:
                    for piece in all_cut_outs(given, rows, columns):
                        lost = number - number_by_ranks(piece.cut)
                        self.assertTrue(0 <= lost <= 2)
                        most_lost = max(lost, most_lost)
        self.assertEqual(most_lost, 2)

    def test_refusals(self):
        def first_of(*arguments):
            return next(iter(all_cut_outs(*arguments)))
        for figures in all_figures():
            for rows, columns in ((1, 1), (2, 1), (1, 2), (2, 2)):
                given = zero_pair(figures, rows, columns)
                for many in (0, -1, True, None, "1", 1.0, (1,)):
                    self.assertEqual(raised(first_of, given, many, 1), ("BadSize", ()))
                    self.assertEqual(raised(first_of, given, 1, many), ("BadSize", ()))
                self.assertEqual(raised(first_of, given, rows + 1, 1), ("BadSize", ()))
                self.assertEqual(raised(first_of, given, 1, columns + 1), ("BadSize", ()))
                made = first_of(given, rows, columns)
                self.assertEqual((made.cut, made.rows, made.columns),
                                 (given, tuple(range(rows)), tuple(range(columns))))


class MixedTest(unittest.TestCase):

    def test_turned_members_spare_as_much(self):
        draw = drawer(373)
        for figures in all_figures():
            for _ in range(6):
                pairs = drawn_fitting(figures, draw)
                made = spared_by(pairs)
                self.assertEqual(spared_by([drawn_turned(one, draw) for one in pairs]), made)
                self.assertEqual(spared_by([one.flipped() for one in pairs]), made)
                if figures.prime == 0:
                    mix = drawn_mixed(joined_pairs(pairs), draw)
                    self.assertEqual(fewest_of(mix).number, fewest_of(joined_pairs(pairs)).number)


if __name__ == "__main__":
    unittest.main()
