"""The fewest products of a pair, what each block costs, and changes of one number."""

from sparedproducts.blocks import blocks_of
from sparedproducts.errors import BadChange
from sparedproducts.factors import bare_roots
from sparedproducts.pairs import Pair
from sparedproducts.ranks import table_of_answer
from sparedproducts.ratios import is_whole


class Fewest:
    """The fewest products of a pair, its blocks, and the polys of them that do not come apart."""

    def __init__(self, number, blocks, extras):
        self.number = number
        self.blocks = blocks
        self.extras = extras


def needs_extra(figures, poly):
    """Whether a poly of degree 1 or more, of any length, does not come apart."""
    return len(bare_roots(figures, tuple(poly))) < len(poly) - 1


def extra_of(figures, polys):
    """How many of the polys do not come apart."""
    return len([poly for poly in polys if needs_extra(figures, poly)])


def costs_of(figures, blocks):
    """What each of the blocks costs, as tuples (word, size, cost)."""
    lying = [("lying", size, size + 1) for size in blocks.lying]
    standing = [("standing", size, size + 1) for size in blocks.standing]
    square = [("square", len(poly) - 1, len(poly) - 1 + extra_of(figures, (poly,))) for poly in blocks.polys]
    return tuple(lying + standing + square)


def fewest_of(pair):
    """The fewest products of the pair, with the blocks that tell them."""
    blocks = blocks_of(pair)
    costs = costs_of(pair.figures, blocks)
    squares = costs[len(costs) - len(blocks.polys):]
    extras = [poly for poly, (_, degree, cost) in zip(blocks.polys, squares) if cost > degree]
    return Fewest(sum([cost for _, _, cost in costs]), blocks, tuple(extras))


def fewest_row(pair):
    """What each block of the pair costs."""
    return costs_of(pair.figures, blocks_of(pair))


def changed_pair(pair, answer, row, column, number):
    """The pair with another number in one cell of one table."""
    table = table_of_answer(pair, answer)
    if not is_whole(row, 0, pair.rows - 1):
        raise BadChange("row")
    if not is_whole(column, 0, pair.columns - 1):
        raise BadChange("column")
    if not pair.figures.is_number(number):
        raise BadChange("number")
    changed = table[row][:column] + (number,) + table[row][column + 1:]
    table = table[:row] + (changed,) + table[row + 1:]
    if answer == 0:
        return Pair(pair.figures, table, pair.second)
    return Pair(pair.figures, pair.first, table)


def fewest_changed(pair, answer, row, column, number):
    """The fewest products of the changed pair."""
    return fewest_of(changed_pair(pair, answer, row, column, number))
