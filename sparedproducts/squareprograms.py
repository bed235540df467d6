"""Programs of square blocks, by the roots of the poly or by any numbers, and programs of single blocks."""

from sparedproducts.barepolys import bare_minus, lengthened
from sparedproducts.blocks import check_square_poly
from sparedproducts.errors import BadBlock, BadPoints, NotApart
from sparedproducts.factors import comes_apart
from sparedproducts.lyingprograms import lying_program, standing_program
from sparedproducts.points import check_points, points_for, powers_at, undone_powers
from sparedproducts.polys import poly_of_roots
from sparedproducts.programs import Program
from sparedproducts.ratios import is_sequence
from sparedproducts.solving import flipped_table, unit_row

WORDS = ("lying", "standing", "square")


def products_of_roots(figures, roots):
    """The products that are right for the square pair of the product of all t - root, for unlike roots."""
    many = len(roots)
    columns = flipped_table(undone_powers(figures, roots))
    return [(column, powers_at(figures, root, many), figures.one, root) for root, column in zip(roots, columns)]


def apart_program(figures, poly):
    """A program of one product for each root, right for the square pair of a poly that comes apart."""
    poly = check_square_poly(figures, poly)
    roots = comes_apart(figures, poly)
    if roots is None:
        raise NotApart()
    return Program(figures, len(roots), len(roots), products_of_roots(figures, roots))


def extra_program(figures, poly, points=None):
    """A program of one product more than the degree, right for the square pair of the poly."""
    poly = check_square_poly(figures, poly)
    degree = len(poly) - 1
    if points is None:
        points = points_for(figures, degree)
    points = check_points(figures, points, degree, False)
    rest = bare_minus(figures, poly_of_roots(figures, points), poly)
    left = lengthened(figures, rest, degree)
    last = (left, unit_row(figures, degree, degree - 1), figures.zero, figures.one)
    return Program(figures, degree, degree, products_of_roots(figures, points) + [last])


def block_program(figures, block, points=None):
    """A program of the fewest products that is right for the pair of a block, a couple (word, size or poly)."""
    if not is_sequence(block) or len(block) != 2 or block[0] not in WORDS:
        raise BadBlock()
    word, told = block
    if word == "lying":
        return lying_program(figures, told, points)
    if word == "standing":
        return standing_program(figures, told, points)
    return square_program(figures, told, points)


def square_program(figures, poly, points):
    """The program by the roots if the poly comes apart, else that of one product more."""
    poly = check_square_poly(figures, poly)
    if comes_apart(figures, poly) is None:
        return extra_program(figures, poly, points)
    if points is not None:
        raise BadPoints(0)
    return apart_program(figures, poly)
