"""Pairs joined corner to corner, what that spares, and the parts of a pair."""

from sparedproducts.counts import fewest_of
from sparedproducts.errors import BadPairs, BadSize, Unlike
from sparedproducts.invariants import ascending_places
from sparedproducts.pairs import Pair
from sparedproducts.programs import is_side
from sparedproducts.ratios import is_sequence, is_whole
from sparedproducts.tables import MOST_ROWS

MOST_PAIRS = 5


class Piece:
    """The pair cut out at some rows and columns of another one."""

    def __init__(self, rows, columns, cut):
        self.rows = rows
        self.columns = columns
        self.cut = cut


class Groups:
    """Places parted into groups, and the number of products that the groups need."""

    def __init__(self, groups, number):
        self.groups = groups
        self.number = number


def check_pairs(pairs):
    """A sequence of one or more pairs."""
    if not is_sequence(pairs) or not 1 <= len(pairs) <= MOST_PAIRS:
        raise BadPairs()
    if not all([isinstance(pair, Pair) for pair in pairs]):
        raise BadPairs()


def check_alike(pairs):
    """Pairs of the same figures."""
    for pair in pairs:
        if pair.figures != pairs[0].figures:
            raise Unlike()


def joined_steps(pairs):
    """The first pair, and what each further one makes of it."""
    check_pairs(pairs)
    check_alike(pairs)
    steps = [pairs[0]]
    for pair in pairs[1:]:
        steps.append(steps[-1].beside(pair))
    return steps


def joined_pairs(pairs):
    """The pairs joined corner to corner."""
    return joined_steps(pairs)[-1]


def spared_by(pairs):
    """How many products fewer the joined pair needs than the pairs alone."""
    joined = joined_pairs(pairs)
    return sum([fewest_of(pair).number for pair in pairs]) - fewest_of(joined).number


def spared_steps(pairs):
    """What is spared when each further pair is joined to all earlier ones."""
    totals = [fewest_of(pair).number for pair in joined_steps(pairs)]
    alone = [fewest_of(pair).number for pair in pairs]
    return tuple([totals[place - 1] + alone[place] - totals[place] for place in range(1, len(totals))])


def is_filled(pair, row, column):
    """Whether one of the tables is not 0 in this cell."""
    zero = pair.figures.zero
    return pair.first[row][column] != zero or pair.second[row][column] != zero


def linked_columns(pair, rows):
    """The columns that have a filled cell in one of the rows."""
    return tuple([column for column in range(pair.columns) if any([is_filled(pair, row, column) for row in rows])])


def linked_rows(pair, columns):
    """The rows that have a filled cell in one of the columns."""
    return tuple([row for row in range(pair.rows) if any([is_filled(pair, row, column) for column in columns])])


def piece_with(pair, row):
    """The piece of a row that has a filled cell."""
    rows = (row,)
    columns = linked_columns(pair, rows)
    more = linked_rows(pair, columns)
    while more != rows:
        rows = more
        columns = linked_columns(pair, rows)
        more = linked_rows(pair, columns)
    return Piece(rows, columns, pair.cut_out(rows, columns))


def pieces_of(pair):
    """The parts of the pair that hang together, in ascending order of their first rows."""
    pieces = []
    for row in range(pair.rows):
        known = any([row in piece.rows for piece in pieces])
        if not known and len(linked_columns(pair, (row,))) > 0:
            pieces.append(piece_with(pair, row))
    return tuple(pieces)


def spared_within(pair):
    """How many products fewer the pair needs than its pieces alone."""
    pieces = pieces_of(pair)
    return sum([fewest_of(piece.cut).number for piece in pieces]) - fewest_of(pair).number


def with_place(groups, place):
    """All ways to put a place into one of the groups or behind them."""
    grown = [groups[:at] + (group + (place,),) + groups[at + 1:] for at, group in enumerate(groups)]
    return grown + [groups + ((place,),)]


def all_partings(many):
    """All ways to part the places below many into groups, ordered by their first places."""
    found = [()]
    for place in range(many):
        found = [grown for groups in found for grown in with_place(groups, place)]
    return found


def group_number(pairs, group, room):
    """The fewest products of the joined pair of a group, or None if it does not fit."""
    members = [pairs[place] for place in group]
    rows = sum([pair.rows for pair in members])
    columns = sum([pair.columns for pair in members])
    if max(rows, columns) > room or not is_side(members[0].figures, max(rows, columns)):
        return None
    return fewest_of(joined_pairs(members)).number


def group_numbers(pairs, room):
    """The number of each group that fits."""
    places = len(pairs)
    numbers = {}
    for many in range(1, places + 1):
        for group in ascending_places(places, many):
            number = group_number(pairs, group, room)
            if number is not None:
                numbers[group] = number
    return numbers


def best_groups(pairs, room):
    """The groups of pairs that together need the least number of products, or None if some pair does not fit."""
    check_pairs(pairs)
    if not is_whole(room, 1, MOST_ROWS):
        raise BadSize()
    check_alike(pairs)
    numbers = group_numbers(pairs, room)
    ranked = [(sum([numbers[group] for group in groups]), len(groups), groups) for groups in all_partings(len(pairs))
              if all([group in numbers for group in groups])]
    if len(ranked) == 0:
        return None
    number, _, best = min(ranked)
    return Groups(best, number)


def all_cut_outs(pair, rows, columns):
    """Every choice of that many rows and columns, with the pair cut out there, in ascending order."""
    if not is_whole(rows, 1, pair.rows) or not is_whole(columns, 1, pair.columns):
        raise BadSize()
    for kept in ascending_places(pair.rows, rows):
        for places in ascending_places(pair.columns, columns):
            yield Piece(kept, places, pair.cut_out(kept, places))
