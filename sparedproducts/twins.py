"""Programs alike, products exchanged, and pairs with one least program only."""

from sparedproducts.barepolys import bare_value
from sparedproducts.blocks import blocks_of
from sparedproducts.counts import extra_of, needs_extra
from sparedproducts.errors import NotShared, Unlike
from sparedproducts.lyingprograms import lying_program, standing_program
from sparedproducts.making import block_list, led_back, least_program
from sparedproducts.points import points_for
from sparedproducts.polys import last_column
from sparedproducts.programs import Program, does_something
from sparedproducts.ratios import is_whole
from sparedproducts.solving import row_scaled, row_sum, table_plus, table_scaled, undone_table, unit_table
from sparedproducts.squareprograms import block_program, extra_program

SIDES = ("left", "right", "numbers")


class Match:
    """Two alike products by their places: the other's left and right numbers are left and right times those of one."""

    def __init__(self, product, other, left, right):
        self.product = product
        self.other = other
        self.left = left
        self.right = right


class Shared:
    """Two places of products that share a side."""

    def __init__(self, first, second, side):
        self.first = first
        self.second = second
        self.side = side


def size_between(figures, one, other):
    """The number whose products with the one row, not all 0, are the other row, or None."""
    place = 0
    while one[place] == figures.zero:
        place += 1
    size = figures.over(other[place], one[place])
    return size if row_scaled(figures, size, one) == other else None


def side_of(entry, side):
    """The numbers of one side of a product."""
    left, right, first, second = entry
    if side == "left":
        return left
    return right if side == "right" else (first, second)


def sizes_if_alike(figures, entry, other):
    """The numbers (left, right) by which two products that do something differ, or None if they are not alike."""
    left = size_between(figures, entry[0], other[0])
    right = size_between(figures, entry[1], other[1])
    # The numbers c and d of the one are those of the other times both sizes.
    both = size_between(figures, other[2:], entry[2:])
    if left is None or right is None or both is None or both != figures.times(left, right):
        return None
    return left, right


def doing_places(program):
    """The places of the products that do something."""
    return [place for place, entry in enumerate(program) if does_something(program.figures, entry)]


def first_match(program, place, other, places):
    """The match of a product and the first of the places in the other program that is alike, or None."""
    for at in places:
        sizes = sizes_if_alike(program.figures, program.products[place], other.products[at])
        if sizes is not None:
            return Match(place, at, sizes[0], sizes[1])
    return None


def alike_programs(program, other):
    """The products of two programs matched one by one, or None if one is left over."""
    if program.figures != other.figures:
        raise Unlike()
    if program.rows != other.rows or program.columns != other.columns:
        return None
    free = doing_places(other)
    matches = []
    for place in doing_places(program):
        found = first_match(program, place, other, free)
        if found is None:
            return None
        free = [at for at in free if at != found.other]
        matches.append(found)
    return tuple(matches) if len(free) == 0 else None


def only_one(pair):
    """Whether all right programs of the fewest products are alike."""
    blocks = blocks_of(pair)
    if len(blocks.lying) > 0 or len(blocks.standing) > 0 or len(blocks.polys) > 1:
        return False
    return extra_of(pair.figures, blocks.polys) == 0


def side_size(figures, entry, other, side):
    """The number by which the other product's side differs, or None if the two do not share it."""
    return size_between(figures, side_of(entry, side), side_of(other, side))


def shared_of_two(program, first, second):
    """The first side that two products share, or None."""
    for side in SIDES:
        if side_size(program.figures, program.products[first], program.products[second], side) is not None:
            return Shared(first, second, side)
    return None


def shared_side(program):
    """The least couple of places whose products share a side, or None."""
    places = doing_places(program)
    for at, first in enumerate(places):
        for second in places[at + 1:]:
            shared = shared_of_two(program, first, second)
            if shared is not None:
                return shared
    return None


def check_shared(program, first, second, side):
    """The number by which the second product's side differs from the first one's."""
    most = len(program) - 1
    if not is_whole(first, 0, most) or not is_whole(second, 0, most) or first == second:
        raise NotShared()
    entry = program.products[first]
    other = program.products[second]
    if not does_something(program.figures, entry) or not does_something(program.figures, other):
        raise NotShared()
    if side not in SIDES:
        raise NotShared()
    size = side_size(program.figures, entry, other, side)
    if size is None:
        raise NotShared()
    return size


def row_less(figures, one, other):
    """The first row less the other one, number by number."""
    return tuple([figures.minus(left, right) for left, right in zip(one, other)])


def exchanged_products(figures, entry, other, side, size):
    """Two products in the place of two that share a side."""
    left, right, first, second = entry
    numbers = (first, second)
    total = row_sum(figures, numbers, other[2:])
    if side == "left":
        part = row_scaled(figures, size, other[1])
        return (left, row_less(figures, right, part)) + numbers, (left, part) + total
    part = row_scaled(figures, size, other[0])
    less = row_less(figures, left, part)
    if side == "right":
        return (less, right) + numbers, (part, right) + total
    return (less, right) + numbers, (part, row_sum(figures, right, other[1])) + numbers


def exchanged_program(program, first, second, side):
    """The program with other products, right for the same pair, in the place of two that share a side."""
    size = check_shared(program, first, second, side)
    products = list(program.products)
    made = exchanged_products(program.figures, products[first], products[second], side, size)
    products[first] = made[0]
    products[second] = made[1]
    return Program(program.figures, program.rows, program.columns, products)


def other_extra_program(figures, poly):
    """A program of the square pair of a poly that does not come apart, not alike to the least one."""
    degree = len(poly) - 1
    program = extra_program(figures, poly)
    # Such a point there is, since a poly with as many roots as its degree comes apart.
    point = [number for number in points_for(figures, degree) if bare_value(figures, poly, number) != figures.zero][0]
    less = table_scaled(figures, figures.negative(point), unit_table(figures, degree))
    table = table_plus(figures, last_column(figures, poly), less)
    # The turning by this table keeps the pair, but not the right numbers of the product at the point.
    return program.led(undone_table(figures, table), table)


def other_block_program(figures, block):
    """A program of the fewest products of a block that is not alike to the block program, or None if all are."""
    word, told = block
    if word == "square":
        return other_extra_program(figures, told) if needs_extra(figures, told) else None
    points = points_for(figures, told + 2)[1:]
    return lying_program(figures, told, points) if word == "lying" else standing_program(figures, told, points)


def twin_program(pair):
    """A right program of the fewest products that is not alike to the least program, or None if all are."""
    if only_one(pair):
        return None
    figures = pair.figures
    blocks = blocks_of(pair)
    couples = block_list(blocks)
    programs = [block_program(figures, block) for block in couples]
    for place, block in enumerate(couples):
        made = other_block_program(figures, block)
        if made is not None:
            programs[place] = made
            return led_back(pair, blocks, programs).program
    # All polys come apart, and the roots of the first one are roots of the next.
    program = least_program(pair).program
    shared = shared_side(program)
    return exchanged_program(program, shared.first, shared.second, shared.side)
