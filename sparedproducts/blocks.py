"""The blocks of a pair, and the turning that leads the mixed pair to them."""

from sparedproducts.barepolys import bare_divides
from sparedproducts.chains import chain_partners, least_chains, plain_form
from sparedproducts.cyclic import cyclic_chains
from sparedproducts.errors import BadSize, BadTable
from sparedproducts.pairs import Pair, check_sizes
from sparedproducts.polys import MOST_DEGREE, check_led_poly, last_column
from sparedproducts.ratios import is_sequence, is_whole
from sparedproducts.solving import column_led, flipped_table, nothing_rows, rank_of, solved_letters
from sparedproducts.solving import table_plus, table_scaled, table_times, undone_table, unit_table
from sparedproducts.solving import zero_row
from sparedproducts.tables import MOST_ROWS, all_are_numbers, check_table

LAST = "last"


class Blocks:
    """The blocks of a pair, the mix, and the turning that leads the mixed pair to the blocks."""

    def __init__(self, idle_rows, idle_columns, lying, standing, polys, left, right, mix):
        self.idle_rows = idle_rows
        self.idle_columns = idle_columns
        self.lying = lying
        self.standing = standing
        self.polys = polys
        self.left = left
        self.right = right
        self.mix = mix


def check_block_size(figures, size):
    """The sizes that a lying or standing block may have as a pair."""
    most = MOST_ROWS if figures.prime == 0 else min(MOST_ROWS, figures.prime)
    if not is_whole(size, 1, most - 1):
        raise BadSize()


def lying_pair(figures, size):
    """The lying block of the size as a pair."""
    check_block_size(figures, size)
    return pair_of_blocks(figures, Blocks(0, 0, (size,), (), (), None, None, None))


def standing_pair(figures, size):
    """The standing block of the size as a pair."""
    return lying_pair(figures, size).flipped()


def check_square_poly(figures, poly):
    """A poly that a square block may have as a pair, as a tuple."""
    high = figures.prime if figures.prime in (2, 3) else MOST_DEGREE
    return check_led_poly(figures, poly, 1, high)


def square_pair(figures, poly):
    """The square block of the poly as a pair."""
    poly = check_square_poly(figures, poly)
    return Pair(figures, unit_table(figures, len(poly) - 1), last_column(figures, poly))


def point_mix(figures, point):
    """The mix of a point."""
    zero, one = figures.zero, figures.one
    if point == LAST:
        return (zero, one), (one, zero)
    return (one, point), (zero, one)


def point_table(pair, point):
    """The first table of the pair mixed by the mix of the point."""
    if point == LAST:
        return pair.second
    return table_plus(pair.figures, pair.first, table_scaled(pair.figures, point, pair.second))


def rank_at(pair, point):
    """The rank of the table of the point."""
    return rank_of(pair.figures, point_table(pair, point))


def tried_points(pair):
    """The points among which the greatest rank is met."""
    figures = pair.figures
    if figures.prime == 0:
        return tuple([figures.whole_number(many) for many in range(min(pair.rows, pair.columns) + 1)])
    return figures.all_numbers() + (LAST,)


def mix_of(pair):
    """The mix of the first point with the greatest rank."""
    best = None
    most = -1
    for point in tried_points(pair):
        # No later point can have more than a full rank.
        if most < min(pair.rows, pair.columns):
            rank = rank_at(pair, point)
            if rank > most:
                best, most = point, rank
    return point_mix(pair.figures, best)


def blocks_of(pair):
    """The blocks of the pair mixed by its mix, and a turning to them."""
    figures = pair.figures
    mix = mix_of(pair)
    mixed = pair.mixed(mix)
    plain = plain_form(figures, mixed.first, mixed.second)
    flipped = flipped_table(plain.inner)
    across = least_chains(figures, plain.inner, plain.inlets)
    down = least_chains(figures, flipped, plain.outlets)
    partners = chain_partners(figures, plain.inner, plain.outlets, down)
    rows = killing_rows(figures, plain, down, chain_partners(figures, flipped, plain.inlets, across))
    squares = square_chains(figures, plain, rows)
    right = flipped_table(turning_columns(figures, plain, across, partners, squares))
    left = flipped_table(led_columns(figures, plain, across, partners, squares))
    lying = chain_sizes(across)
    standing = chain_sizes(down)
    return Blocks(len(down) - len(standing), len(across) - len(lying), lying, standing,
                  tuple([poly for poly, _ in squares]),
                  table_times(figures, undone_table(figures, left), plain.left),
                  table_times(figures, plain.right, right), mix)


def chain_sizes(chains):
    """The sizes of the chains that are not idle."""
    return tuple([len(chain) - 1 for chain in chains if len(chain) > 1])


def with_tail(figures, head, many):
    """The row continued by zeros to that many numbers."""
    return head + zero_row(figures, many - len(head))


def killing_rows(figures, plain, down, partners):
    """The rows of numbers whose products with the columns of the square part, and only these, are all zero."""
    rows = [with_tail(figures, row[:plain.rank], len(plain.right)) for chain in down for row in chain[:-1]]
    return rows + [row for _, far in partners for row in far]


def square_chains(figures, plain, rows):
    """Couples (poly, columns) of the square part, each poly dividing the next."""
    wide = len(plain.right)
    basis = unit_table(figures, wide) if len(rows) == 0 else nothing_rows(figures, flipped_table(rows))
    if len(basis) == 0:
        return ()
    heads = flipped_table([column[:plain.rank] for column in basis])
    # The table C with first C = second on the square part, in numbers of the basis.
    own = [solved_letters(figures, heads, column_led(figures, plain.second[:plain.rank], column))
           for column in basis]
    columns = flipped_table(basis)
    return tuple([(poly, [column_led(figures, columns, letters) for letters in chain])
                  for poly, chain in cyclic_chains(figures, flipped_table(own))])


def turning_columns(figures, plain, across, partners, squares):
    """The columns of the plain form that stand for the columns of the blocks, in their order."""
    wide = len(plain.right)
    made = [column for chain in across if len(chain) > 1 for column in chain]
    made = made + [with_tail(figures, head, wide) for near, _ in partners for head in near]
    made = made + [column for _, chain in squares for column in chain]
    return made + [chain[0] for chain in across if len(chain) == 1]


def led_columns(figures, plain, across, partners, squares):
    """The columns of the plain form that stand for the rows of the blocks, in their order."""
    high = len(plain.left)
    rank = plain.rank
    made = [with_tail(figures, column[:rank], high) for chain in across for column in chain[:-1]]
    made = made + [column for near, far in partners if len(near) > 0 for column in far]
    made = made + [with_tail(figures, column[:rank], high) for _, chain in squares for column in chain]
    return made + [far[0] for near, far in partners if len(near) == 0]


def blocks_sides(blocks):
    """The numbers of rows and columns of all blocks together."""
    degrees = sum([len(poly) - 1 for poly in blocks.polys])
    both = sum(blocks.lying) + sum(blocks.standing) + degrees
    return both + len(blocks.standing) + blocks.idle_rows, both + len(blocks.lying) + blocks.idle_columns


def block_ones(blocks):
    """The places of the ones of all lying and standing blocks in both tables, and the place behind them."""
    first = []
    second = []
    row = 0
    column = 0
    for size in blocks.lying:
        first = first + [(row + place, column + place) for place in range(size)]
        second = second + [(row + place, column + place + 1) for place in range(size)]
        row, column = row + size, column + size + 1
    for size in blocks.standing:
        first = first + [(row + place, column + place) for place in range(size)]
        second = second + [(row + place + 1, column + place) for place in range(size)]
        row, column = row + size + 1, column + size
    return first, second, row, column


def pair_of_blocks(figures, blocks):
    """The pair of blocks whose sizes a pair may have."""
    rows, columns = blocks_sides(blocks)
    first = [[figures.zero] * columns for _ in range(rows)]
    second = [[figures.zero] * columns for _ in range(rows)]
    ones, others, row, column = block_ones(blocks)
    for at, place in ones:
        first[at][place] = figures.one
    for at, place in others:
        second[at][place] = figures.one
    for poly in blocks.polys:
        for at, entries in enumerate(last_column(figures, poly)):
            first[row + at][column + at] = figures.one
            second[row + at][column:column + len(entries)] = list(entries)
        row, column = row + len(poly) - 1, column + len(poly) - 1
    return Pair(figures, first, second)


def blocks_pair(figures, blocks):
    """The pair of the blocks, made of the first five attributes alone."""
    rows, columns = blocks_sides(blocks)
    check_sizes(figures, rows, columns)
    return pair_of_blocks(figures, blocks)


def are_block_sizes(blocks):
    """Whether the first four attributes, of any kind, are numbers of idle ones and ascending sizes."""
    if not is_whole(blocks.idle_rows, 0) or not is_whole(blocks.idle_columns, 0):
        return False
    return are_ascending(blocks.lying) and are_ascending(blocks.standing)


def are_ascending(sizes):
    """Whether the thing is a sequence of whole numbers from 1, none less than the one before."""
    if not is_sequence(sizes):
        return False
    low = 1
    for size in sizes:
        if not is_whole(size, low):
            return False
        low = size
    return True


def is_row_of_polys(figures, polys):
    """Whether the thing is a sequence of polys led by one of degree 1 or more, each dividing the next."""
    if not is_sequence(polys) or not all([is_led_poly(figures, poly) for poly in polys]):
        return False
    return all([bare_divides(figures, one, other) for one, other in zip(polys, polys[1:])])


def is_led_poly(figures, poly):
    """Whether the thing is a poly of any length led by one, of degree 1 or more."""
    if not is_sequence(poly) or len(poly) < 2 or not all_are_numbers(figures, poly):
        return False
    return poly[-1] == figures.one


def table_or_none(figures, table, rows, columns):
    """The thing as a table of that size, or None if it is none."""
    try:
        return check_table(figures, table, rows, columns)
    except BadTable:
        return None


def turning_word(pair, other, left, right):
    """The first word that keeps left and right from turning the pair into another one of its size, or None."""
    figures = pair.figures
    left = table_or_none(figures, left, pair.rows, pair.rows)
    if left is None:
        return "left"
    right = table_or_none(figures, right, pair.columns, pair.columns)
    if right is None:
        return "right"
    if rank_of(figures, left) < pair.rows or rank_of(figures, right) < pair.columns:
        return "once"
    return None if pair.turned(left, right) == other else "cell"


def blocks_fault(pair, blocks):
    """The first word that keeps any blocks from being those of the pair, or None."""
    figures = pair.figures
    if not are_block_sizes(blocks):
        return "blocks"
    if not is_row_of_polys(figures, blocks.polys):
        return "polys"
    if blocks_sides(blocks) != (pair.rows, pair.columns):
        return "size"
    mix = mix_of(pair)
    if table_or_none(figures, blocks.mix, 2, 2) != mix:
        return "mix"
    return turning_word(pair.mixed(mix), pair_of_blocks(figures, blocks), blocks.left, blocks.right)
