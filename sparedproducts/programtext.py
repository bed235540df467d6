"""Texts of programs: a head, and a line for each product."""

from sparedproducts.errors import BadText
from sparedproducts.numbertexts import lines_of, read_figures, read_numbers, read_whole, row_text, whole_text
from sparedproducts.programs import MOST_PRODUCTS, Program, is_side

HEAD = "program"
BETWEEN = " | "


def program_text(program):
    """The text of a program."""
    figures = program.figures
    lines = [HEAD + " " + " ".join([whole_text(part) for part in (figures.prime, program.rows, program.columns)])]
    for left, right, first, second in program:
        lines.append(BETWEEN.join([row_text(figures, row) for row in (left, right, (first, second))]))
    return "\n".join(lines)


def read_program_head(line):
    """The figures, the rows and the columns that the first line tells."""
    words = line.split(" ")
    if len(words) != 4 or words[0] != HEAD:
        raise BadText(0)
    figures = read_figures(words[1])
    rows = read_whole(words[2])
    columns = read_whole(words[3])
    if not is_side(figures, rows) or not is_side(figures, columns):
        raise BadText(0)
    return figures, rows, columns


def read_product(figures, rows, columns, line):
    """The product whose text the line is, or None."""
    parts = line.split(BETWEEN)
    if len(parts) != 3:
        return None
    left = read_numbers(figures, parts[0], rows)
    right = read_numbers(figures, parts[1], columns)
    ends = read_numbers(figures, parts[2], 2)
    return None if left is None or right is None or ends is None else (left, right) + ends


def read_program(text):
    """The program whose text it is."""
    lines = lines_of(text)
    figures, rows, columns = read_program_head(lines[0])
    products = []
    for place in range(1, len(lines)):
        made = read_product(figures, rows, columns, lines[place])
        if made is None or place > MOST_PRODUCTS:
            raise BadText(place)
        products.append(made)
    return Program(figures, rows, columns, products)
