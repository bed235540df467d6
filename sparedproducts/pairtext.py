"""Texts of pairs: a head, the rows of the first table, a line "and", the rows of the second table."""

from sparedproducts.errors import BadText
from sparedproducts.numbertexts import lines_of, read_figures, read_numbers, row_text, whole_text
from sparedproducts.pairs import Pair
from sparedproducts.programs import is_side

HEAD = "pair"
BETWEEN = "and"


def pair_text(pair):
    """The text of a pair."""
    figures = pair.figures
    lines = [HEAD + " " + whole_text(figures.prime)]
    lines = lines + [row_text(figures, row) for row in pair.first]
    return "\n".join(lines + [BETWEEN] + [row_text(figures, row) for row in pair.second])


def read_pair_head(line):
    """The figures that the first line tells."""
    words = line.split(" ")
    if len(words) != 2 or words[0] != HEAD:
        raise BadText(0)
    return read_figures(words[1])


def read_row(figures, lines, at, columns):
    """The row of numbers in the line at that place."""
    if at == len(lines):
        raise BadText(at)
    row = read_numbers(figures, lines[at], columns)
    if row is None:
        raise BadText(at)
    return row


def read_first_row(figures, lines):
    """The first row of the first table, whose length is that of all others."""
    if len(lines) == 1:
        raise BadText(1)
    columns = len(lines[1].split(" "))
    if not is_side(figures, columns):
        raise BadText(1)
    return read_row(figures, lines, 1, columns)


def read_first_table(figures, lines):
    """The rows ahead of the line between."""
    rows = [read_first_row(figures, lines)]
    while len(rows) + 1 < len(lines) and lines[len(rows) + 1] != BETWEEN:
        at = len(rows) + 1
        if not is_side(figures, at):
            raise BadText(at)
        rows.append(read_row(figures, lines, at, len(rows[0])))
    if len(rows) + 1 == len(lines):
        raise BadText(len(lines))
    return rows


def read_pair(text):
    """The pair whose text it is."""
    lines = lines_of(text)
    figures = read_pair_head(lines[0])
    first = read_first_table(figures, lines)
    ahead = len(first) + 2
    second = [read_row(figures, lines, ahead + place, len(first[0])) for place in range(len(first))]
    if len(lines) > ahead + len(first):
        raise BadText(ahead + len(first))
    return Pair(figures, first, second)
