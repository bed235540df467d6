"""All lots of products for tables of two rows and two columns by the primes 2 and 3."""

from sparedproducts.blocks import table_or_none
from sparedproducts.errors import BadPlaces, BadProducts, NotSmall
from sparedproducts.figures import undone_rest
from sparedproducts.pairs import check_turning
from sparedproducts.programs import Program, first_not_zero, is_number_row
from sparedproducts.ratios import is_sequence, is_whole
from sparedproducts.solving import column_led, flipped_table, row_scaled, solved_letters

SMALL = (2, 3)
SIZE = 2
MOST_TABLES = 4
MOST_COUPLES = 16


class Lot:
    """The places of the products of a lot, the products, and for each table their numbers."""

    def __init__(self, places, products, numbers):
        self.places = places
        self.products = products
        self.numbers = numbers


def check_small(figures):
    """Figures that are small enough to go through all lots."""
    if figures.prime not in SMALL:
        raise NotSmall("figures")


def check_tables(figures, tables):
    """The tables, each as the row of its four cells."""
    check_small(figures)
    if not is_sequence(tables) or not 1 <= len(tables) <= MOST_TABLES:
        raise NotSmall("many")
    checked = []
    for table in tables:
        known = table_or_none(figures, table, SIZE, SIZE)
        if known is None:
            raise NotSmall("table")
        checked.append(known[0] + known[1])
    return checked


def led_couples(figures):
    """The couples of numbers whose first number that is not 0 is 1, ascending."""
    return ((figures.zero, figures.one),) + tuple([(figures.one, number) for number in figures.all_numbers()])


def all_products(figures):
    """All products (u, v) but for numbers, in ascending order."""
    check_small(figures)
    couples = led_couples(figures)
    return tuple([(left, right) for left in couples for right in couples])


def product_cells(figures, entry):
    """The four cells of the table of a product."""
    left, right = entry
    return row_scaled(figures, left[0], right) + row_scaled(figures, left[1], right)


def is_product(figures, thing):
    """Whether the thing is a sequence of two sequences of two numbers."""
    if not is_sequence(thing) or len(thing) != 2:
        return False
    return is_number_row(figures, thing[0], SIZE) and is_number_row(figures, thing[1], SIZE)


def check_products(figures, products):
    """The cells of the tables of any products."""
    if not is_sequence(products):
        raise BadProducts(0)
    if len(products) > MOST_COUPLES:
        raise BadProducts(MOST_COUPLES)
    cells = []
    for index, entry in enumerate(products):
        if not is_product(figures, entry):
            raise BadProducts(index)
        cells.append(product_cells(figures, entry))
    return cells


def numbers_for(figures, tables, products):
    """For each table numbers with which it is the sum of the tables of the products, or None."""
    rows = check_tables(figures, tables)
    cells = check_products(figures, products)
    numbers = [numbers_of_row(figures, cells, row) for row in rows]
    return None if None in numbers else tuple(numbers)


def numbers_of_row(figures, cells, row):
    """The numbers whose sum with the cells of some tables is the row, or None."""
    if len(cells) > 0:
        return solved_letters(figures, flipped_table(cells), row)
    return () if first_not_zero(figures, row) is None else None


def with_row(figures, basis, row):
    """The basis, and behind it what of the row is no sum of it, if anything.

    A basis is a tuple of couples (lead, row): the row has one at its lead, and those behind it have zero there.
    """
    prime = figures.prime
    for lead, known in basis:
        times = row[lead]
        row = [(entry - times * less) % prime for entry, less in zip(row, known)]
    for lead, entry in enumerate(row):
        if entry != 0:
            undone = undone_rest(entry, prime)
            return basis + ((lead, tuple([undone * number % prime for number in row])),)
    return basis


def basis_of(figures, rows):
    """A basis of the sums of the rows."""
    basis = ()
    for row in rows:
        basis = with_row(figures, basis, row)
    return basis


def independent_tables(figures, tables):
    """The greatest number of the tables of which none lies in the span of the others of them."""
    return len(basis_of(figures, check_tables(figures, tables)))


def all_cells(figures):
    """The cells of the tables of all products."""
    return [product_cells(figures, entry) for entry in all_products(figures)]


def places_within(figures, basis):
    """The places of all products whose tables are sums of the basis."""
    return tuple([place for place, cells in enumerate(all_cells(figures))
                  if len(with_row(figures, basis, cells)) == len(basis)])


def products_within(figures, tables):
    """The places, ascending, of all products whose tables lie in the span of the tables."""
    return places_within(figures, basis_of(figures, check_tables(figures, tables)))


def fewest_places(figures, basis):
    """How many places the fewest lots of the sums of the basis have."""
    cells = all_cells(figures)
    within = basis_of(figures, [cells[place] for place in places_within(figures, basis)])
    return len(basis) if len(within) == len(basis) else len(basis) + 1


def grown_lots(figures, cells, lot, many):
    """The lot (places, own, joint) with each place behind its last one, as far as it may still become a fewest one.

    own is a basis of its products' tables, joint one of these and the tables to be served.
    """
    places, own, joint = lot
    grown = []
    for place in range(places[-1] + 1 if len(places) > 0 else 0, len(cells)):
        more = with_row(figures, own, cells[place])
        both = with_row(figures, joint, cells[place])
        if len(more) > len(own) and len(both) <= many:
            grown.append((places + (place,), more, both))
    return grown


def all_fewest_lots(figures, tables):
    """Every fewest lot, ascending."""
    basis = basis_of(figures, check_tables(figures, tables))
    many = fewest_places(figures, basis)
    cells = all_cells(figures)
    lots = [((), (), basis)]
    for _ in range(many):
        lots = [grown for lot in lots for grown in grown_lots(figures, cells, lot, many)]
    # Now each lot's own tables are independent and as many as they are together with those to be served.
    return [places for places, _, _ in lots]


def fewest_lots(figures, tables):
    """Every fewest lot once, ascending."""
    for places in all_fewest_lots(figures, tables):
        yield places


def search_lots(figures, tables):
    """The first fewest lot, with its products and their numbers."""
    places = all_fewest_lots(figures, tables)[0]
    known = all_products(figures)
    products = tuple([known[place] for place in places])
    return Lot(places, products, numbers_for(figures, tables, products))


def search_program(pair):
    """The program of the first fewest lot of the tables of a pair."""
    lot = search_lots(pair.figures, (pair.first, pair.second))
    ends = list(zip(lot.numbers[0], lot.numbers[1]))
    products = [entry + numbers for entry, numbers in zip(lot.products, ends)]
    return Program(pair.figures, SIZE, SIZE, products)


def check_places(places, many):
    """Ascending places below many."""
    if not is_sequence(places):
        raise BadPlaces(0)
    low = 0
    for index, place in enumerate(places):
        if not is_whole(place, low, many - 1):
            raise BadPlaces(index)
        low = place + 1


def led_couple(figures, table, couple):
    """What the table makes of a couple, divided by its first number that is not 0."""
    made = column_led(figures, table, couple)
    return row_scaled(figures, figures.over(figures.one, first_not_zero(figures, made)), made)


def led_places(figures, places, left, right):
    """The lot, ascending, of the products that the turning by left and right makes of those of the lot."""
    known = all_products(figures)
    check_places(places, len(known))
    left, right = check_turning(figures, SIZE, SIZE, left, right)
    columns = flipped_table(right)
    couples = [known[place] for place in places]
    made = [known.index((led_couple(figures, left, one), led_couple(figures, columns, other)))
            for one, other in couples]
    return tuple(sorted(made))
