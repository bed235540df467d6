"""Bounds of the fewest products, and the pairs of a size that need the most."""

from sparedproducts.blocks import Blocks, blocks_pair
from sparedproducts.errors import BadPair
from sparedproducts.pairs import check_sizes
from sparedproducts.ranks import rank_alone, three_ranks
from sparedproducts.ratios import is_whole
from sparedproducts.tables import MOST_ROWS


def low_bound(pair):
    """The greater of the ranks of the tables beside and above one another."""
    beside, above, _ = three_ranks(pair)
    return max(beside, above)


def high_bound(pair):
    """The sum of the ranks of both tables."""
    return rank_alone(pair, 0) + rank_alone(pair, 1)


def most_of(rows, columns):
    """The greatest number of products that a pair of this size may need."""
    if not is_whole(rows, 1, MOST_ROWS) or not is_whole(columns, 1, MOST_ROWS):
        raise BadPair("size")
    less = min(rows, columns)
    more = max(rows, columns)
    return 2 * less if more >= 2 * less else less + more // 2


def hardest_pair(figures, rows, columns):
    """A pair of this size that needs the most products."""
    check_sizes(figures, rows, columns)
    pair = hardest_lying_pair(figures, min(rows, columns), max(rows, columns))
    return pair.flipped() if rows > columns else pair


def hardest_lying_pair(figures, rows, columns):
    """A hardest pair with no more rows than columns."""
    # A lying block of size 1 needs twice its rows; only rows without a spare column go into squares.
    many = min(columns - rows, rows)
    left = rows - many
    polys = straight_and_twice(figures, left)
    return blocks_pair(figures, Blocks(0, columns - rows - many, (1,) * many, (), polys, None, None, None))


def straight_and_twice(figures, size):
    """A row of polys of that many degrees together with as many as can be that do not come apart."""
    zero, one = figures.zero, figures.one
    return ((zero, one),) * (size % 2) + ((zero, zero, one),) * (size // 2)
