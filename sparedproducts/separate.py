"""Points at which the table of a pair loses rank, and programs that are separate at two points."""

from sparedproducts.barepolys import bare_value
from sparedproducts.blocks import LAST, blocks_of, point_table
from sparedproducts.errors import BadPoints
from sparedproducts.factors import bare_roots
from sparedproducts.points import is_point, point_couple, points_for
from sparedproducts.programs import Program
from sparedproducts.ranks import common_rank
from sparedproducts.solving import reduced_table, row_scaled


def point_of_root(figures, mix, root):
    """The point whose own number, by the mix of the blocks, is the root."""
    if mix[0][0] == figures.zero:
        return figures.negative(root)
    if root == figures.zero:
        return LAST
    return figures.minus(mix[0][1], figures.over(figures.one, root))


def falls_of_blocks(figures, blocks):
    """Couples (point, fall) for the roots of the row of polys, in the order of the roots."""
    if len(blocks.polys) == 0:
        return ()
    # Each poly divides the next, so the last one has all roots.
    return tuple([(point_of_root(figures, blocks.mix, root), zeros_at(figures, blocks.polys, root))
                  for root in bare_roots(figures, blocks.polys[-1])])


def zeros_at(figures, polys, number):
    """How many of the polys are zero at the number."""
    return len([poly for poly in polys if bare_value(figures, poly, number) == figures.zero])


def falling_points(pair):
    """All couples (point, fall) with a fall of 1 or more, ascending, "last" behind the numbers."""
    figures = pair.figures
    made = []
    behind = []
    for point, fall in falls_of_blocks(figures, blocks_of(pair)):
        if point == LAST:
            behind.append((point, fall))
        else:
            at = len([known for known, _ in made if figures.compare(known, point) < 0])
            made.insert(at, (point, fall))
    return tuple(made + behind)


def fall_downwards(couple):
    """What puts couples (point, fall) in the order of descending falls."""
    return -couple[1]


def separate_points(pair):
    """Two unlike points at which a separate program is shortest."""
    falling = [point for point, _ in sorted(falling_points(pair), key=fall_downwards)]
    # Where one point falls, at least one of the first two does not.
    others = [point for point in points_for(pair.figures, 2) if point not in falling]
    return tuple((falling + others)[:2])


def separate_least(pair):
    """How many products the separate program at these points has."""
    falls = sorted([fall for _, fall in falling_points(pair)], reverse=True)
    return 2 * common_rank(pair) - sum(falls[:2])


def separate_program(pair, point, other):
    """A right program: first products that add nothing at the other point, then those that add nothing at the point."""
    figures = pair.figures
    if not is_point(figures, point):
        raise BadPoints(0)
    if not is_point(figures, other) or other == point:
        raise BadPoints(1)
    products = products_of_point(pair, point, other) + products_of_point(pair, other, point)
    return Program(figures, pair.rows, pair.columns, products)


def products_of_point(pair, point, other):
    """Products that make the table of the point and add nothing at the other one, as many as its rank."""
    figures = pair.figures
    table = point_table(pair, point)
    reduced, leading = reduced_table(figures, table)
    first, second = served_couple(figures, point_couple(figures, point), point_couple(figures, other))
    return [(tuple([line[lead] for line in table]), row, first, second)
            for row, lead in zip(reduced, leading)]


def served_couple(figures, one, other):
    """The numbers (c, d) whose sum with the first couple is 1 and with the other one is 0."""
    across = figures.minus(figures.times(one[0], other[1]), figures.times(one[1], other[0]))
    turned = (other[1], figures.negative(other[0]))
    return row_scaled(figures, figures.over(figures.one, across), turned)
