"""The fewest products by other ways than the package's: the blocks that a pair was built of, and ranks and polys."""

import itertools

from helpers import fraction
from sparedproducts.blocks import mix_of, rank_at
from sparedproducts.factors import comes_apart
from sparedproducts.invariants import row_of_polys
from sparedproducts.solving import rank_of, solved_letters


def all_points(figures):
    """By a prime all points, in fractions some of them; ascending."""
    if figures.prime:
        return figures.all_numbers() + ("last",)
    return tuple((top, 1) for top in (-2, -1, 0, 1, 2, 3, 4, 5)) + ("last",)


def divisors(number):
    number = abs(number)
    low = [many for many in range(1, int(number ** 0.5) + 1) if number % many == 0]
    return sorted(set(low + [number // many for many in low]))


def plain_roots(figures, poly):
    """The roots of a poly of small numbers, by trial alone."""
    if figures.prime:
        return [root for root in range(figures.prime)
                if sum(number * root ** power for power, number in enumerate(poly)) % figures.prime == 0]
    parts = [fraction(number) for number in poly]
    bottom = 1
    for part in parts:
        bottom *= part.denominator
    wholes = [int(part * bottom) for part in parts]
    zeros = next(place for place, whole in enumerate(wholes) if whole)
    found = {(0, 1)} if zeros else set()
    for top, low in itertools.product(divisors(wholes[zeros]), divisors(wholes[-1])):
        for sign in (1, -1):
            if sum(whole * (sign * top) ** power * low ** (len(wholes) - 1 - power)
                   for power, whole in enumerate(wholes)) == 0:
                made = fraction((sign * top, low))
                found.add((made.numerator, made.denominator))
    return sorted(found, key=fraction)


def plainly_apart(figures, poly):
    return len(plain_roots(figures, poly)) == len(poly) - 1


def due_row(figures, made):
    """What each block of built blocks costs, by [4.4]."""
    row = [("lying", size, size + 1) for size in made.lying]
    row += [("standing", size, size + 1) for size in made.standing]
    return tuple(row + [("square", len(poly) - 1, len(poly) - plainly_apart(figures, poly)) for poly in made.polys])


def due_number(figures, made):
    return sum(cost for _, _, cost in due_row(figures, made))


def plain_common_rank(pair):
    points = all_points(pair.figures)
    assert pair.figures.prime or len(points) > min(pair.rows, pair.columns)
    return max(rank_at(pair, point) for point in points)


def number_by_ranks(pair):
    """The second way of [4.5], the polys being those of cut-outs."""
    figures = pair.figures
    beside = rank_of(figures, [one + other for one, other in zip(pair.first, pair.second)])
    above = rank_of(figures, pair.first + pair.second)
    polys = row_of_polys(pair.mixed(mix_of(pair)))
    return beside + above - plain_common_rank(pair) + sum(comes_apart(figures, poly) is None for poly in polys)


def flat(table):
    return tuple(number for row in table for number in row)


def product_table(figures, left, right):
    return tuple(figures.times(one, other) for one in left for other in right)


def numbers_of_products(pair, couples):
    """Numbers (c, .. ) and (d, .. ) with which the products (u, v) are right for the pair, or None."""
    figures = pair.figures
    if not couples:
        none = all(number == figures.zero for number in flat(pair.first + pair.second))
        return ((), ()) if none else None
    tables = [product_table(figures, left, right) for left, right in couples]
    cells = [tuple(table[place] for table in tables) for place in range(len(tables[0]))]
    made = tuple(solved_letters(figures, cells, flat(table)) for table in (pair.first, pair.second))
    return None if None in made else made
