"""Least programs: the block programs corner to corner, led back to the pair."""

from sparedproducts.blocks import blocks_of
from sparedproducts.counts import fewest_of
from sparedproducts.errors import BadChoice, BadMany, BadPoints, Unlike
from sparedproducts.programs import Program, is_right
from sparedproducts.ratios import is_sequence
from sparedproducts.solving import undone_table, unit_row, zero_row
from sparedproducts.squareprograms import block_program
from sparedproducts.tables import MOST_ROWS


class Making:
    """A program, the blocks that it is made from, and what products serve each block."""

    def __init__(self, program, blocks, rows):
        self.program = program
        self.blocks = blocks
        self.rows = rows


def plain_program(pair):
    """The program of one product for each cell at which one of the tables is not 0."""
    figures = pair.figures
    products = [(unit_row(figures, pair.rows, row), unit_row(figures, pair.columns, column),
                 pair.first[row][column], pair.second[row][column])
                for row in range(pair.rows) for column in range(pair.columns)
                if pair.first[row][column] != figures.zero or pair.second[row][column] != figures.zero]
    return Program(figures, pair.rows, pair.columns, products)


def placed_row(figures, row, ahead, many):
    """The row behind that many zeros, and zeros behind it, many in all."""
    return zero_row(figures, ahead) + row + zero_row(figures, many - ahead - len(row))


def corner_products(figures, rows, columns, programs):
    """The products of all programs corner to corner, in a program of that many rows and columns."""
    made = []
    row = 0
    column = 0
    for program in programs:
        for left, right, first, second in program:
            left = placed_row(figures, left, row, rows)
            made.append((left, placed_row(figures, right, column, columns), first, second))
        row, column = row + program.rows, column + program.columns
    return made


def programs_beside(programs):
    """The program of all programs corner to corner."""
    if not is_sequence(programs) or not 1 <= len(programs) <= MOST_ROWS:
        raise BadMany(MOST_ROWS)
    figures = programs[0].figures
    for program in programs:
        if program.figures != figures:
            raise Unlike()
    rows = sum([program.rows for program in programs])
    columns = sum([program.columns for program in programs])
    return Program(figures, rows, columns, corner_products(figures, rows, columns, programs))


def block_list(blocks):
    """The blocks that are not idle as couples (word, size or poly), in the order of the blocks."""
    lying = [("lying", size) for size in blocks.lying]
    standing = [("standing", size) for size in blocks.standing]
    return lying + standing + [("square", poly) for poly in blocks.polys]


def least_program(pair):
    """A right program of the fewest products, with the products that serve each block."""
    blocks = blocks_of(pair)
    programs = [block_program(pair.figures, block) for block in block_list(blocks)]
    return led_back(pair, blocks, programs)


def least_program_by(pair, choices):
    """The same with chosen points for each block."""
    blocks = blocks_of(pair)
    couples = block_list(blocks)
    if not is_sequence(choices) or len(choices) != len(couples):
        raise BadChoice(0, 0)
    programs = [chosen_program(pair.figures, block, points, at)
                for at, (block, points) in enumerate(zip(couples, choices))]
    return led_back(pair, blocks, programs)


def chosen_program(figures, block, points, at):
    """The program of the block at the points; at is the number of the block."""
    try:
        return block_program(figures, block, points)
    except BadPoints as wrong:
        raise BadChoice(at, wrong.index)


def led_back(pair, blocks, programs):
    """The making of the programs of the blocks, led back to the pair from the corners where the blocks stand."""
    figures = pair.figures
    products = corner_products(figures, pair.rows, pair.columns, programs)
    program = Program(figures, pair.rows, pair.columns, products)
    program = program.led(undone_table(figures, blocks.left), undone_table(figures, blocks.right))
    program = program.mixed(undone_table(figures, blocks.mix))
    return Making(program, blocks, rows_of_counts(blocks, [len(made) for made in programs]))


def rows_of_counts(blocks, counts):
    """One entry (block, first, many) for each block, the products of the blocks one behind another."""
    rows = []
    first = 0
    for block, many in zip(block_list(blocks), counts):
        rows.append((block, first, many))
        first += many
    return tuple(rows)


def due_rows(blocks, extras):
    """The entries that the least program has, given the polys that do not come apart."""
    counts = [size + 1 for size in blocks.lying + blocks.standing]
    counts = counts + [len(poly) if poly in extras else len(poly) - 1 for poly in blocks.polys]
    return rows_of_counts(blocks, counts)


def making_fault(pair, making):
    """The first word that keeps any making from being one of the pair, or None."""
    program = making.program
    if program.figures != pair.figures or program.rows != pair.rows or program.columns != pair.columns:
        return "program"
    fewest = fewest_of(pair)
    if len(program) != fewest.number:
        return "size"
    if making.rows != due_rows(fewest.blocks, fewest.extras):
        return "rows"
    return None if is_right(pair, program) else "right"
