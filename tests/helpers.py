"""What several test files need: figures, drawn numbers and tables, and one way to look at errors."""

import random
from fractions import Fraction

from sparedproducts.errors import PairError
from sparedproducts.figures import Figures
from sparedproducts.pairs import Pair
from sparedproducts.ratios import make_ratio
from sparedproducts.solving import rank_of

PRIMES = (2, 3, 5, 7, 11, 13)
ALL = (0,) + PRIMES


def fraction(ratio):
    return Fraction(ratio[0], ratio[1])


def numbers(figures, wholes):
    """Whole numbers, couples (top, bottom) left as they are, as a tuple of numbers."""
    return tuple(figures.number_of(w) if isinstance(w, tuple) else figures.whole_number(w) for w in wholes)


def table(figures, rows):
    return tuple(numbers(figures, row) for row in rows)


def pair(figures, first, second):
    return Pair(figures, table(figures, first), table(figures, second))


def drawn_number(figures, draw):
    if figures.prime:
        return draw.randrange(figures.prime)
    return make_ratio(draw.randint(-4, 4), draw.choice((1, 1, 1, 2, 3)))


def long_number(draw, digits=20):
    """A ratio whose top and bottom have that many digits."""
    top = draw.randint(10 ** (digits - 1), 10 ** digits - 1) * draw.choice((-1, 1))
    return make_ratio(top, draw.randint(10 ** (digits - 1), 10 ** digits - 1))


def drawn_table(figures, draw, rows, columns, filled=1.0):
    return tuple(tuple(drawn_number(figures, draw) if draw.random() < filled else figures.zero
                       for _ in range(columns)) for _ in range(rows))


def drawn_pair(figures, draw, rows, columns, filled=1.0):
    return Pair(figures, drawn_table(figures, draw, rows, columns, filled),
                drawn_table(figures, draw, rows, columns, filled))


def drawn_invertible(figures, draw, size):
    while True:
        made = drawn_table(figures, draw, size, size)
        if rank_of(figures, made) == size:
            return made


def most_sides(figures):
    return min(5, figures.prime) if figures.prime else 5


def plain_times(figures, left, right):
    """The product of two tables by nothing but the deeds of the figures."""
    made = []
    for row in left:
        line = []
        for column in range(len(right[0])):
            total = figures.zero
            for place, number in enumerate(row):
                total = figures.plus(total, figures.times(number, right[place][column]))
            line.append(total)
        made.append(tuple(line))
    return tuple(made)


def drawer(seed):
    return random.Random(seed)


def told(error):
    """The class of an error and its attributes in the order in which they were given."""
    return type(error).__name__, tuple(vars(error).values())


def raised(deed, *arguments):
    """What an error of the package tells that a call raises, or None."""
    try:
        deed(*arguments)
    except PairError as error:
        return told(error)
    return None


def all_figures():
    return [Figures(prime) for prime in ALL]
