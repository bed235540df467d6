"""Pairs turned into one another."""

from sparedproducts.blocks import blocks_of, turning_word
from sparedproducts.errors import Unlike
from sparedproducts.solving import table_times, undone_table


class Apart:
    """Why no turning leads one pair to another one: the first word whose things differ."""

    def __init__(self, what):
        self.what = what


def same_size(pair, other):
    """Whether two pairs over the same figures have one size."""
    if pair.figures != other.figures:
        raise Unlike()
    return pair.rows == other.rows and pair.columns == other.columns


def sizes_word(one, other):
    """The first word in which the blocks of two pairs differ apart from the mix and the polys, or None."""
    if one.idle_rows != other.idle_rows or one.idle_columns != other.idle_columns:
        return "idle"
    if one.lying != other.lying:
        return "lying"
    return "standing" if one.standing != other.standing else None


def unlike_word(one, other):
    """The first word in which the blocks of two pairs differ, or None."""
    word = sizes_word(one, other)
    if word is not None:
        return word
    if one.mix != other.mix:
        return "mix"
    return "polys" if one.polys != other.polys else None


def same_by_turning(pair, other):
    """A couple of tables that turn the pair into the other one, or why there is none."""
    if not same_size(pair, other):
        return Apart("size")
    figures = pair.figures
    one = blocks_of(pair)
    two = blocks_of(other)
    word = unlike_word(one, two)
    if word is not None:
        return Apart(word)
    # Both are led to the same blocks, one of them there and the other one back.
    left = table_times(figures, undone_table(figures, two.left), one.left)
    right = table_times(figures, one.right, undone_table(figures, two.right))
    return left, right


def turning_fault(pair, other, left, right):
    """The first word that keeps left and right from turning the pair into the other one, or None."""
    if not same_size(pair, other):
        return "size"
    return turning_word(pair, other, left, right)
