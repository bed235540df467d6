"""What no turning changes: divisors of cut-outs and rows of polys."""

from sparedproducts.barepolys import bare_common, bare_minus, bare_multiple, bare_plus, bare_quotient
from sparedproducts.barepolys import bare_times, trimmed
from sparedproducts.errors import BadPoly, NotSquare
from sparedproducts.pairs import Pair
from sparedproducts.polys import MOST_NUMBERS, check_led_poly, check_poly
from sparedproducts.ratios import is_sequence
from sparedproducts.solving import table_plus, table_scaled, table_times, unit_table
from sparedproducts.tables import check_table

MOST_POLYS = 5


def poly_table(pair):
    """The table of the polys t first - second."""
    return polys_between(pair.figures, pair.first, pair.second)


def polys_between(figures, first, second):
    """The table of the polys t first - second, of two tables of one size."""
    return tuple([tuple([trimmed(figures, (figures.negative(number), lead)) for lead, number in zip(one, other)])
                  for one, other in zip(first, second)])


def check_square(table):
    """Each row has as many entries as there are rows."""
    for row in table:
        if len(row) != len(table):
            raise NotSquare(len(table), len(row))


def determinant_poly(figures, table):
    """The determinant of a square table of polys."""
    check_square(table)
    return bare_determinant(figures, [[check_poly(figures, poly) for poly in row] for row in table])


def bare_determinant(figures, table):
    """The determinant of a square table of polys, without checks."""
    size = len(table)
    found = {((), ()): (figures.one,)}
    for many in range(1, size + 1):
        found = greater_determinants(figures, table, found, [tuple(range(size - many, size))],
                                     ascending_places(size, many))
    return found[(tuple(range(size)), tuple(range(size)))]


def ascending_places(size, many):
    """All ascending tuples of that many places below the size."""
    found = [()]
    for _ in range(many):
        found = [places + (place,) for places in found
                 for place in range(places[-1] + 1 if len(places) > 0 else 0, size)]
    return found


def greater_determinants(figures, table, found, rows, columns):
    """The determinants of the kept rows and columns, by those found of one row and column less."""
    return {(kept, places): along_first_row(figures, table, found, kept, places)
            for kept in rows for places in columns}


def along_first_row(figures, table, found, rows, columns):
    """The determinant of the kept rows and columns, by the polys of the first of these rows."""
    total = ()
    row = table[rows[0]]
    for at, column in enumerate(columns):
        if len(row[column]) > 0:
            rest = found[(rows[1:], columns[:at] + columns[at + 1:])]
            made = bare_times(figures, row[column], rest)
            total = bare_plus(figures, total, made) if at % 2 == 0 else bare_minus(figures, total, made)
    return total


def divisors_of(pair):
    """The common divisors D_1, D_2, .. of the determinants of all cut-outs of the table of polys."""
    figures = pair.figures
    table = poly_table(pair)
    found = {((), ()): (figures.one,)}
    divisors = []
    for many in range(1, min(pair.rows, pair.columns) + 1):
        found = greater_determinants(figures, table, found, ascending_places(pair.rows, many),
                                     ascending_places(pair.columns, many))
        divisor = common_of_all(figures, list(found.values()))
        if len(divisor) > 0:
            divisors.append(divisor)
    return tuple(divisors)


def common_of_all(figures, polys):
    """The common divisor of all polys, the zero poly if all are."""
    common = ()
    for poly in polys:
        if len(common) != 1:
            common = bare_common(figures, common, poly)
    return common


def row_of_polys(pair):
    """The quotients of the divisors, each by the one before, without those of degree 0."""
    divisors = divisors_of(pair)
    ahead = ((pair.figures.one,),) + divisors
    quotients = [bare_quotient(pair.figures, divisor, less) for divisor, less in zip(divisors, ahead)]
    return of_degree(quotients)


def of_degree(polys):
    """The polys of degree 1 or more."""
    return tuple([poly for poly in polys if len(poly) > 1])


def last_sizes(pair):
    """How often t divides the entries of the row of polys of the pair with its tables exchanged, where it does."""
    figures = pair.figures
    row = row_of_polys(Pair(figures, pair.second, pair.first))
    sizes = [zeros_ahead(figures, poly) for poly in row]
    return tuple([size for size in sizes if size > 0])


def zeros_ahead(figures, poly):
    """The number of zeros ahead of the first number that is not zero."""
    many = 0
    while poly[many] == figures.zero:
        many += 1
    return many


def square_table(figures, table):
    """The table as a tuple of tuples with as many columns as rows."""
    table = check_table(figures, table)
    check_square(table)
    return table


def own_poly(figures, table):
    """The determinant of t less the table."""
    table = square_table(figures, table)
    return bare_determinant(figures, polys_between(figures, unit_table(figures, len(table)), table))


def poly_at_table(figures, poly, table):
    """The sum of the poly's numbers times the powers of the table."""
    poly = check_poly(figures, poly)
    table = square_table(figures, table)
    unit = unit_table(figures, len(table))
    made = table_scaled(figures, figures.zero, unit)
    for number in poly[::-1]:
        made = table_plus(figures, table_times(figures, made, table), table_scaled(figures, number, unit))
    return made


def joined_row(figures, polys):
    """The row of polys of the last columns of all polys corner to corner."""
    if not is_sequence(polys) or len(polys) > MOST_POLYS:
        raise BadPoly(0, "many")
    most = MOST_NUMBERS - 1
    row = [check_led_poly(figures, poly, 0, most) for poly in polys]
    if sum([len(poly) - 1 for poly in row]) > most:
        raise BadPoly(0, "degree")
    for place in range(len(row)):
        for behind in range(place + 1, len(row)):
            # The two together have the row of their common divisor and their common multiple.
            one, other = row[place], row[behind]
            row[place] = bare_common(figures, one, other)
            row[behind] = bare_multiple(figures, one, other)
    return of_degree(row)
