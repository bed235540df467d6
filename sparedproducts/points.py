"""Points: numbers and "last"; their power rows, the tables of these, and the points of programs."""

from sparedproducts.blocks import LAST
from sparedproducts.errors import BadMany, BadPoints, NoPoint
from sparedproducts.ratios import is_sequence, is_whole
from sparedproducts.solving import undone_table, unit_row

MOST_POINTS = 6


def is_point(figures, thing):
    """Whether the thing is a number of the figures or "last"."""
    return figures.is_number(thing) or thing == LAST


def points_for(figures, many):
    """The first points: the numbers 0, 1, 2 and so on, by a prime "last" behind them."""
    most = MOST_POINTS if figures.prime == 0 else min(MOST_POINTS, figures.prime + 1)
    if not is_whole(many, 0, most):
        raise BadMany(most)
    if figures.prime != 0:
        return (figures.all_numbers() + (LAST,))[:many]
    return tuple([figures.whole_number(place) for place in range(many)])


def check_points(figures, points, many, last=True):
    """The points, exactly many unlike ones, as a tuple."""
    if not is_sequence(points) or len(points) != many:
        raise BadPoints(0)
    for index, point in enumerate(points):
        if not is_point(figures, point) or point in points[:index]:
            raise BadPoints(index)
        if point == LAST and not last:
            raise BadPoints(index)
    return tuple(points)


def powers_at(figures, point, size):
    """The power row of a point, without checks."""
    if point == LAST:
        return unit_row(figures, size, size - 1)
    row = [figures.one]
    while len(row) < size:
        row.append(figures.times(row[-1], point))
    return tuple(row)


def point_couple(figures, point):
    """The couple (1, t) of a number t, (0, 1) of "last"."""
    return powers_at(figures, point, 2)


def power_row(figures, point, size):
    """The numbers 1, t, t ** 2, .. at a number t, zeros and a one at "last"."""
    if not is_point(figures, point):
        raise BadPoints(0)
    if not is_whole(size, 1, MOST_POINTS):
        raise BadMany(MOST_POINTS)
    return powers_at(figures, point, size)


def power_table(figures, points):
    """The square table of the power rows of unlike points."""
    if not is_sequence(points) or not 1 <= len(points) <= MOST_POINTS:
        raise BadPoints(0)
    points = check_points(figures, points, len(points))
    return tuple([powers_at(figures, point, len(points)) for point in points])


def undone_powers(figures, points):
    """The table whose product with the power table of the points is the unit table."""
    return undone_table(figures, power_table(figures, points))


def program_points(program):
    """The points of the products of any program, in their order."""
    points = []
    for index, (_, _, first, second) in enumerate(program):
        points.append(point_of_couple(program.figures, first, second, index))
    return tuple(points)


def point_of_couple(figures, first, second, index):
    """The point at which a couple of numbers stands; index is that of the product it is from."""
    if first != figures.zero:
        return figures.over(second, first)
    if second == figures.zero:
        raise NoPoint(index)
    return LAST
