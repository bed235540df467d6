"""Programs of lying and standing blocks, one product for each of some points."""

from sparedproducts.blocks import LAST, check_block_size
from sparedproducts.errors import NoEnd
from sparedproducts.invariants import ascending_places
from sparedproducts.points import check_points, point_couple, points_for, powers_at, undone_powers
from sparedproducts.programs import Program
from sparedproducts.solving import flipped_table


def lying_program(figures, size, points=None):
    """A program of size + 1 products that is right for the lying pair, at as many unlike points."""
    check_block_size(figures, size)
    if points is None:
        points = points_for(figures, size + 1)
    points = check_points(figures, points, size + 1)
    columns = flipped_table(undone_powers(figures, points))
    products = [(powers_at(figures, point, size), column) + point_couple(figures, point)
                for point, column in zip(points, columns)]
    return Program(figures, size, size + 1, products)


def standing_program(figures, size, points=None):
    """A program of size + 1 products that is right for the standing pair, at as many unlike points."""
    return lying_program(figures, size, points).flipped()


def lying_programs(figures, size):
    """By a prime the lying program at each ascending choice of size + 1 of all points."""
    check_block_size(figures, size)
    if figures.prime == 0:
        raise NoEnd()
    points = figures.all_numbers() + (LAST,)
    for places in ascending_places(len(points), size + 1):
        yield lying_program(figures, size, [points[place] for place in places])
