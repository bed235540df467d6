"""Pairs, programs and polys of fractions read by a prime, and what that does to the fewest products."""

from sparedproducts.blocks import blocks_of
from sparedproducts.counts import fewest_of
from sparedproducts.errors import BadNumber, BadPrime, NotFractions, TooWide
from sparedproducts.figures import Figures
from sparedproducts.pairs import Pair
from sparedproducts.polys import MOST_DEGREE, check_led_poly
from sparedproducts.programs import Program
from sparedproducts.ratios import is_sequence, is_whole
from sparedproducts.turnings import sizes_word

PRIMES = (2, 3, 5, 7, 11, 13)
WIDE_ENOUGH = (5, 7, 11, 13)


class PrimeRow:
    """The fewest products by a prime, or why there is no such number."""

    def __init__(self, prime, number, why):
        self.prime = prime
        self.number = number
        self.why = why


def is_offered_prime(thing):
    """Whether the thing is one of the primes."""
    return is_whole(thing) and thing in PRIMES


def check_prime(prime):
    """One of the primes."""
    if not is_offered_prime(prime):
        raise BadPrime(0)


def check_fractions(figures):
    """Figures that are all fractions."""
    if figures.prime != 0:
        raise NotFractions()


def check_reading(thing, prime):
    """A pair or program of fractions that is not too wide for the prime."""
    check_fractions(thing.figures)
    check_prime(prime)
    if max(thing.rows, thing.columns) > prime:
        raise TooWide()


def numbers_by(figures, numbers):
    """The readings of a row of ratios."""
    return tuple([figures.number_of(number) for number in numbers])


def pair_by_prime(pair, prime):
    """The reading of a pair."""
    check_reading(pair, prime)
    figures = Figures(prime)
    first = [numbers_by(figures, row) for row in pair.first]
    return Pair(figures, first, [numbers_by(figures, row) for row in pair.second])


def program_by_prime(program, prime):
    """The reading of a program, product by product."""
    check_reading(program, prime)
    figures = Figures(prime)
    products = [(numbers_by(figures, left), numbers_by(figures, right)) + numbers_by(figures, (first, second))
                for left, right, first, second in program]
    return Program(figures, program.rows, program.columns, products)


def check_fraction_poly(poly):
    """A poly of fractions led by one, of degree 1 to 5, as a tuple."""
    return check_led_poly(Figures(0), poly, 1, MOST_DEGREE)


def poly_by_prime(poly, prime):
    """The reading of a poly."""
    poly = check_fraction_poly(poly)
    check_prime(prime)
    return numbers_by(Figures(prime), poly)


def fewest_by_prime(pair, prime):
    """The fewest products of the reading of a pair."""
    return fewest_of(pair_by_prime(pair, prime)).number


def prime_row(pair, prime):
    """The fewest products by one prime, or why there are none."""
    try:
        return PrimeRow(prime, fewest_by_prime(pair, prime), None)
    except TooWide:
        return PrimeRow(prime, None, "wide")
    except BadNumber:
        return PrimeRow(prime, None, "number")


def check_primes(primes):
    """Unlike primes, at least one."""
    if not is_sequence(primes) or len(primes) == 0:
        raise BadPrime(0)
    for index, prime in enumerate(primes):
        if not is_offered_prime(prime) or prime in primes[:index]:
            raise BadPrime(index)


def fewest_by_primes(pair, primes):
    """The fewest products by each of the primes, in their order."""
    check_fractions(pair.figures)
    check_primes(primes)
    return tuple([prime_row(pair, prime) for prime in primes])


def parting_primes(pair):
    """The primes from 5 on by which the pair can be read and has another number than in fractions."""
    check_fractions(pair.figures)
    number = fewest_of(pair).number
    rows = [prime_row(pair, prime) for prime in WIDE_ENOUGH]
    return tuple([row.prime for row in rows if row.why is None and row.number != number])


def degrees_of(blocks):
    """The degrees of the row of polys."""
    return [len(poly) - 1 for poly in blocks.polys]


def change_of_blocks(pair, prime):
    """The first word in which the blocks of the pair differ from those of its reading, or None."""
    reading = blocks_of(pair_by_prime(pair, prime))
    blocks = blocks_of(pair)
    word = sizes_word(blocks, reading)
    if word is not None:
        return word
    return "row" if degrees_of(blocks) != degrees_of(reading) else None
