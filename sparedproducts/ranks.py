"""Ranks of the tables of a pair: beside one another, above one another, at the points, and alone."""

from sparedproducts.blocks import mix_of
from sparedproducts.errors import BadChange
from sparedproducts.ratios import is_whole
from sparedproducts.solving import rank_of


def three_ranks(pair):
    """The ranks of the tables beside one another and above one another, and the common rank."""
    figures = pair.figures
    beside = [one + other for one, other in zip(pair.first, pair.second)]
    return rank_of(figures, beside), rank_of(figures, pair.first + pair.second), common_rank(pair)


def common_rank(pair):
    """The greatest rank that the table of a point has."""
    return rank_of(pair.figures, pair.mixed(mix_of(pair)).first)


def table_of_answer(pair, answer):
    """The first table for answer 0, the second one for answer 1."""
    if not is_whole(answer, 0, 1):
        raise BadChange("answer")
    return pair.first if answer == 0 else pair.second


def rank_alone(pair, answer):
    """The fewest products that meet one of the answers alone."""
    return rank_of(pair.figures, table_of_answer(pair, answer))
