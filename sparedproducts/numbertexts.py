"""Texts of numbers, and words read back as numbers."""

from sparedproducts.errors import BadText
from sparedproducts.figures import OFFERED, Figures
from sparedproducts.ratios import is_ratio

DIGITS = "0123456789"
MOST_DIGITS = 300


def whole_text(whole):
    """The decimal digits of an integer of any length."""
    if whole < 0:
        return "-" + whole_text(-whole)
    # Python itself writes no integers of more than some thousand digits.
    parts = []
    while whole >= 10 ** 64:
        parts.append(str(whole % 10 ** 64).zfill(64))
        whole = whole // 10 ** 64
    parts.append(str(whole))
    return "".join(parts[::-1])


def number_text(figures, number):
    """The text of a number."""
    if figures.prime != 0:
        return whole_text(number)
    top, bottom = number
    return whole_text(top) if bottom == 1 else whole_text(top) + "/" + whole_text(bottom)


def row_text(figures, row):
    """The texts of the numbers of a row, separated by one blank."""
    return " ".join([number_text(figures, number) for number in row])


def read_whole(word):
    """The integer whose text of at most so many digits the word is, or None."""
    if len(word) == 0 or len(word) > MOST_DIGITS or (len(word) > 1 and word[0] == "0"):
        return None
    return int(word) if all([sign in DIGITS for sign in word]) else None


def read_top(word):
    """The integer, perhaps a negative one, whose text the word is, or None."""
    if not word.startswith("-"):
        return read_whole(word)
    whole = read_whole(word[1:])
    return None if whole is None or whole == 0 else -whole


def read_ratio(word):
    """The ratio whose text the word is, or None."""
    top, slash, bottom = word.partition("/")
    whole = read_top(top)
    if slash == "":
        return None if whole is None else (whole, 1)
    ratio = (whole, read_whole(bottom))
    return ratio if is_ratio(ratio) and ratio[1] > 1 else None


def read_number(figures, word):
    """The number whose text the word is, or None."""
    number = read_ratio(word) if figures.prime == 0 else read_whole(word)
    return number if figures.is_number(number) else None


def read_numbers(figures, text, many):
    """The row of numbers whose text it is, exactly many, or None."""
    row = tuple([read_number(figures, word) for word in text.split(" ")])
    return row if len(row) == many and None not in row else None


def lines_of(text):
    """The lines of a text, separated by line feeds alone."""
    if not isinstance(text, str):
        raise BadText(0)
    return text.split("\n")


def read_figures(word):
    """The figures of the prime whose text the word is."""
    prime = read_whole(word)
    if prime is None or prime not in OFFERED:
        raise BadText(0)
    return Figures(prime)
