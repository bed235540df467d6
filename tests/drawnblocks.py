"""Drawn blocks of all kinds, and what several test files ask of blocks."""

from helpers import all_figures, drawer, drawn_invertible, drawn_number, most_sides
from sparedproducts.blocks import Blocks, blocks_pair
from sparedproducts.polys import poly_times

DETERMINED = ("idle_rows", "idle_columns", "lying", "standing", "polys", "mix")


def blocks(idle_rows=0, idle_columns=0, lying=(), standing=(), polys=(), left=None, right=None, mix=None):
    return Blocks(idle_rows, idle_columns, lying, standing, polys, left, right, mix)


def determined(made):
    return tuple(getattr(made, name) for name in DETERMINED)


def first_five(made):
    return determined(made)[:5]


def degrees(polys):
    return [len(poly) - 1 for poly in polys]


def sides(made):
    both = sum(made.lying) + sum(made.standing) + sum(degrees(made.polys))
    return both + len(made.standing) + made.idle_rows, both + len(made.lying) + made.idle_columns


def drawn_row_of_polys(figures, draw):
    polys, last = [], (figures.one,)
    for _ in range(draw.choice((0, 0, 1, 1, 2, 3, 5))):
        factor = tuple(drawn_number(figures, draw) for _ in range(draw.choice((0, 0, 1, 1, 2, 3)))) + (figures.one,)
        if len(last) + len(factor) > 13:
            return tuple(polys)
        last = poly_times(figures, last, factor)
        if len(last) > 1:
            polys.append(last)
    return tuple(polys)


def drawn_blocks(figures, draw):
    """Any blocks that fit into a pair."""
    most = most_sides(figures)
    while True:
        sizes = [tuple(sorted(draw.choice((1, 1, 2, 3, 4)) for _ in range(draw.choice((0, 0, 1, 1, 2)))))
                 for _ in range(2)]
        made = blocks(draw.choice((0, 0, 1, 2)), draw.choice((0, 0, 1, 2)), sizes[0], sizes[1],
                      drawn_row_of_polys(figures, draw))
        rows, columns = sides(made)
        if 1 <= rows <= most and 1 <= columns <= most:
            return made


def drawn_turned(pair, draw):
    return pair.turned(drawn_invertible(pair.figures, draw, pair.rows),
                       drawn_invertible(pair.figures, draw, pair.columns))


def drawn_mixed(pair, draw):
    return pair.mixed(drawn_invertible(pair.figures, draw, 2))


def drawn_kinds(seed, many):
    """Over all figures drawn blocks and the pair of them behind a mix and a turning."""
    draw = drawer(seed)
    for figures in all_figures():
        for _ in range(many):
            due = drawn_blocks(figures, draw)
            yield figures, due, drawn_turned(drawn_mixed(blocks_pair(figures, due), draw), draw)
