"""Drawn programs, and what several test files ask of them."""

from helpers import drawn_number, most_sides
from sparedproducts.programs import Program


def drawn_row(figures, draw, many, filled=0.8):
    return tuple(drawn_number(figures, draw) if draw.random() < filled else figures.zero for _ in range(many))


def drawn_program(figures, draw, rows, columns, many, filled=0.8):
    return Program(figures, rows, columns, [
        (drawn_row(figures, draw, rows, filled), drawn_row(figures, draw, columns, filled))
        + drawn_row(figures, draw, 2, filled) for _ in range(many)])


def any_program(figures, draw, filled=0.8):
    rows, columns = draw.randint(1, most_sides(figures)), draw.randint(1, most_sides(figures))
    return drawn_program(figures, draw, rows, columns, draw.randint(0, 8), filled)


def idle_product(figures, rows, columns):
    """A product that does nothing."""
    return (figures.zero,) * rows, (figures.one,) * columns, figures.one, figures.one


def with_more(program, *products):
    """The program with products put behind."""
    return Program(program.figures, program.rows, program.columns, program.products + products)


def sum_of(figures, entries):
    total = figures.zero
    for number in entries:
        total = figures.plus(total, number)
    return total


def tables_of(figures, rows, columns, products):
    """Both tables of products, cell by cell, by nothing but [0.3]."""
    return [tuple(tuple(sum_of(figures, [figures.times(entry[2 + answer], figures.times(entry[0][i], entry[1][j]))
                                         for entry in products])
                        for j in range(columns)) for i in range(rows)) for answer in (0, 1)]
