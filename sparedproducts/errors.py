"""The errors of the package: each is a class straight under PairError."""


class PairError(ValueError):
    """What all errors of the package have in common."""


class BadRatio(PairError):
    """A top or a bottom that makes no ratio."""

    def __init__(self, what):
        self.what = what


class DividedByNought(PairError):
    """A division by zero, or by the zero poly."""


class BadFigures(PairError):
    """A prime that is not offered."""

    def __init__(self, prime):
        self.prime = prime


class BadNumber(PairError):
    """A ratio that has no rest by the prime."""


class BadTable(PairError):
    """A table of a wrong form; index counts its rows."""

    def __init__(self, index, what):
        self.index = index
        self.what = what


class BadLetters(PairError):
    """Numbers for letters that are no numbers, or too few or too many."""

    def __init__(self, what, index):
        self.what = what
        self.index = index


class BadPair(PairError):
    """Sizes that no pair may have, or that do not fit."""

    def __init__(self, what):
        self.what = what


class BadKept(PairError):
    """Places that cannot be kept of a pair."""

    def __init__(self, what, index):
        self.what = what
        self.index = index


class Unlike(PairError):
    """Two things of unlike figures."""


class BadProgram(PairError):
    """A program of a wrong form; index counts its products."""

    def __init__(self, index, what):
        self.index = index
        self.what = what


class BadText(PairError):
    """A text that is not read; place counts its lines."""

    def __init__(self, place):
        self.place = place


class NotOnce(PairError):
    """A table that is not invertible."""


class BadSize(PairError):
    """A size that no block may have."""


class BadPoly(PairError):
    """A poly of a wrong form; index counts its numbers."""

    def __init__(self, index, what):
        self.index = index
        self.what = what


class NotSquare(PairError):
    """A table with unlike numbers of rows and columns."""

    def __init__(self, rows, columns):
        self.rows = rows
        self.columns = columns


class BadChange(PairError):
    """A change that a pair cannot take."""

    def __init__(self, what):
        self.what = what


class BadPoints(PairError):
    """Points of a wrong form."""

    def __init__(self, index):
        self.index = index


class BadMany(PairError):
    """A count above what there is."""

    def __init__(self, most):
        self.most = most


class BadBlock(PairError):
    """A block of a wrong form."""


class NotApart(PairError):
    """A poly that does not come apart."""


class NoEnd(PairError):
    """A walk through fractions that would not end."""


class NoPoint(PairError):
    """A product that belongs to no point."""

    def __init__(self, index):
        self.index = index


class BadChoice(PairError):
    """A choice of points that a block cannot take."""

    def __init__(self, block, index):
        self.block = block
        self.index = index


class BadSide(PairError):
    """A side that is none."""


class BadRow(PairError):
    """A row of numbers of a wrong form."""

    def __init__(self, what, index):
        self.what = what
        self.index = index


class BadTaps(PairError):
    """Taps of a wrong form."""

    def __init__(self, index):
        self.index = index


class BadSplit(PairError):
    """Sizes into which nothing can be split."""


class NotSuch(PairError):
    """A program that is not right for what it is used for."""


class NotFractions(PairError):
    """A thing by a prime where fractions are due."""


class BadPrime(PairError):
    """A prime that cannot be used."""

    def __init__(self, index):
        self.index = index


class TooWide(PairError):
    """A thing too wide for the prime."""


class BadTimes(PairError):
    """A count of times of a wrong form."""


class BadPairs(PairError):
    """Pairs that are no sequence of pairs that fit."""


class NotShared(PairError):
    """Products that share no side."""


class NotSmall(PairError):
    """Figures or tables too large to search."""

    def __init__(self, what):
        self.what = what


class BadProducts(PairError):
    """Products of a wrong form."""

    def __init__(self, index):
        self.index = index


class BadPlaces(PairError):
    """Places of a wrong form."""

    def __init__(self, index):
        self.index = index


class BadCode(PairError):
    """A code of a wrong form; index counts its steps."""

    def __init__(self, index, what):
        self.index = index
        self.what = what


class BadEdit(PairError):
    """An edit of a wrong form; index counts the edits."""

    def __init__(self, index, what):
        self.index = index
        self.what = what


class BadGoal(PairError):
    """A goal of a wrong form."""

    def __init__(self, index):
        self.index = index


class NotRight(PairError):
    """A program that is not right for the pair."""

    def __init__(self, cell):
        self.cell = cell


class NothingDone(PairError):
    """Nothing that could be taken back."""
