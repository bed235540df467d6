"""The bench: a pair and a right program that are changed deed by deed, and every deed taken back."""

from sparedproducts.counts import fewest_of
from sparedproducts.errors import BadProgram, NothingDone
from sparedproducts.making import least_program
from sparedproducts.mends import carried_program, check_right, edited_pair, goal_met, pair_behind


class Tried:
    """The fewest products behind some edits, and whether a goal is met there."""

    def __init__(self, number, met):
        self.number = number
        self.met = met


def carried_or_least(program, pair, edit, made):
    """The program carried along the edit, or the least one of the edited pair if there would be too many products."""
    try:
        return carried_program(program, pair, edit)
    except BadProgram:
        return least_program(made).program


class Bench:
    """A pair and a program that is right for it, with the deeds done so far."""

    def __init__(self, pair):
        self.present = pair
        self.program = least_program(pair).program
        self._past = ()

    def __len__(self):
        return len(self._past)

    @property
    def log(self):
        """The words of the deeds, in their order."""
        return tuple([word for word, _, _ in self._past])

    def _do(self, word, pair, program):
        self._past = self._past + ((word, self.present, self.program),)
        self.present = pair
        self.program = program

    def do_edit(self, edit):
        """Edits the pair and carries the program along."""
        made = pair_behind(self.present, edit, 0)
        program = carried_or_least(self.program, self.present, edit, made)
        self._do(edit[0], made, program)

    def put_in(self, program):
        """Takes another program that is right for the pair."""
        check_right(self.present, program)
        self._do("put in", self.present, program)

    def freshen(self):
        """Takes the least program of the pair."""
        self._do("freshen", self.present, least_program(self.present).program)

    def take_back(self):
        """Undoes the last deed."""
        if len(self._past) == 0:
            raise NothingDone()
        _, pair, program = self._past[-1]
        self._past = self._past[:-1]
        self.present = pair
        self.program = program

    def slack(self):
        """How many products more than the fewest the program has."""
        return len(self.program) - fewest_of(self.present).number

    def trial(self, edits, *, goal=None):
        """The fewest products behind the edits, and whether the goal is met there; nothing is changed."""
        made = edited_pair(self.present, edits)
        met = None if goal is None else goal_met(made, goal)
        return Tried(fewest_of(made).number, met)
