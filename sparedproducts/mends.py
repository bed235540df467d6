"""Edits of pairs, programs carried along, and the least lots of edits that meet goals or miss one."""

from sparedproducts.counts import changed_pair, fewest_of
from sparedproducts.errors import BadChange, BadEdit, BadGoal, BadPair, BadTable, NotOnce, NotRight
from sparedproducts.making import least_program, programs_beside
from sparedproducts.pairs import Pair
from sparedproducts.programs import Program, is_right, wrong_at
from sparedproducts.ratios import is_sequence, is_whole
from sparedproducts.solving import unit_row
from sparedproducts.twins import only_one

KINDS = (("number", 5), ("drop row", 2), ("drop column", 2), ("mix", 2), ("beside", 2))
MOST_EDITS = 12
MOST_TRIED = 6
MOST_GOALS = 4


def check_kind(edit, index):
    """The word of an edit that has the right length for it."""
    if is_sequence(edit):
        for word, many in KINDS:
            if len(edit) == many and edit[0] == word:
                return word
    raise BadEdit(index, "kind")


def all_but(many, place):
    """The places below many but for one."""
    return [other for other in range(many) if other != place]


def pair_without_row(pair, row, index):
    """The pair without one of its rows, not the only one."""
    if pair.rows == 1 or not is_whole(row, 0, pair.rows - 1):
        raise BadEdit(index, "row")
    return pair.cut_out(all_but(pair.rows, row), list(range(pair.columns)))


def pair_without_column(pair, column, index):
    """The pair without one of its columns, not the only one."""
    if pair.columns == 1 or not is_whole(column, 0, pair.columns - 1):
        raise BadEdit(index, "column")
    return pair.cut_out(list(range(pair.rows)), all_but(pair.columns, column))


def pair_with_number(pair, edit, index):
    """The pair with another number in one cell."""
    _, answer, row, column, number = edit
    try:
        return changed_pair(pair, answer, row, column, number)
    except BadChange as error:
        raise BadEdit(index, error.what)


def mixed_pair(pair, table, index):
    """The pair mixed by an invertible table of two by two."""
    try:
        return pair.mixed(table)
    except (BadTable, NotOnce):
        raise BadEdit(index, "table")


def pair_with_other(pair, other, index):
    """The pair and another one behind it, corner to corner."""
    if not isinstance(other, Pair) or other.figures != pair.figures:
        raise BadEdit(index, "pair")
    try:
        return pair.beside(other)
    except BadPair:
        raise BadEdit(index, "size")


def pair_behind(pair, edit, index):
    """The pair behind one edit, whose place is the index."""
    word = check_kind(edit, index)
    if word == "number":
        return pair_with_number(pair, edit, index)
    if word == "drop row":
        return pair_without_row(pair, edit[1], index)
    if word == "drop column":
        return pair_without_column(pair, edit[1], index)
    if word == "mix":
        return mixed_pair(pair, edit[1], index)
    return pair_with_other(pair, edit[1], index)


def edited_pair(pair, edits):
    """The pair behind all edits, from left to right."""
    if not is_sequence(edits) or len(edits) > MOST_EDITS:
        raise BadEdit(0, "many")
    for index, edit in enumerate(edits):
        pair = pair_behind(pair, edit, index)
    return pair


def check_right(pair, program):
    """A program that is right for the pair."""
    if program.figures != pair.figures or program.rows != pair.rows or program.columns != pair.columns:
        raise NotRight(None)
    cell = wrong_at(pair, program)
    if cell is not None:
        raise NotRight(cell)


def row_without(row, place):
    """The row without the number at that place."""
    return row[:place] + row[place + 1:]


def program_with_number(program, pair, edit):
    """The program and one product for what is new in a cell, if anything is."""
    figures = program.figures
    _, answer, row, column, number = edit
    old = (pair.first if answer == 0 else pair.second)[row][column]
    if old == number:
        return program
    left = unit_row(figures, program.rows, row)
    right = unit_row(figures, program.columns, column)
    more = figures.minus(number, old)
    ends = (more, figures.zero) if answer == 0 else (figures.zero, more)
    return Program(figures, program.rows, program.columns, program.products + ((left, right) + ends,))


def carried_program(program, pair, edit):
    """The program that is right for the edited pair, for one that is right for the pair."""
    check_right(pair, program)
    made = pair_behind(pair, edit, 0)
    word = edit[0]
    if word == "number":
        return program_with_number(program, pair, edit)
    if word == "mix":
        return program.mixed(edit[1])
    if word == "beside":
        return programs_beside((program, least_program(edit[1]).program))
    products = [(row_without(left, edit[1]) if word == "drop row" else left,
                 row_without(right, edit[1]) if word == "drop column" else right, first, second)
                for left, right, first, second in program]
    return Program(program.figures, made.rows, made.columns, products)


def check_goal(goal, index):
    """One of the three kinds of goals."""
    if not is_goal(goal):
        raise BadGoal(index)


def is_goal(thing):
    """Whether the thing is one of the three kinds of goals."""
    if not is_sequence(thing) or not 1 <= len(thing) <= 2:
        return False
    if len(thing) == 1:
        return thing[0] == "one only"
    if thing[0] == "at most":
        return is_whole(thing[1], 0)
    return thing[0] == "right" and isinstance(thing[1], Program)


def fits_program(pair, program):
    """Whether any program is right for the pair."""
    if program.figures != pair.figures or program.rows != pair.rows or program.columns != pair.columns:
        return False
    return is_right(pair, program)


def is_met(pair, goal):
    """Whether a goal of the right form is met."""
    if goal[0] == "at most":
        return fewest_of(pair).number <= goal[1]
    return only_one(pair) if goal[0] == "one only" else fits_program(pair, goal[1])


def goal_met(pair, goal):
    """Whether the goal is met."""
    check_goal(goal, 0)
    return is_met(pair, goal)


def all_are_met(pair, goals):
    """Whether goals of the right form are met, all of them."""
    for goal in goals:
        if not is_met(pair, goal):
            return False
    return True


def check_goals(goals):
    """A sequence of one or more goals."""
    if not is_sequence(goals) or not 1 <= len(goals) <= MOST_GOALS:
        raise BadGoal(0)
    for index, goal in enumerate(goals):
        check_goal(goal, index)


def pair_or_none(pair, edit):
    """The pair behind one edit, or None if the edit does not fit it."""
    try:
        return pair_behind(pair, edit, 0)
    except BadEdit:
        return None


def longer_lots(lot, pair, edits):
    """The couples (lot, pair) of one edit more behind the last one of the lot, as far as it fits the pair there."""
    grown = []
    for place in range(lot[-1] + 1 if len(lot) > 0 else 0, len(edits)):
        made = pair_or_none(pair, edits[place])
        if made is not None:
            grown.append((lot + (place,), made))
    return grown


def least_lots(pair, edits, goals, due):
    """All lots with the fewest edits behind which it is true, or false, as due, that all goals are met."""
    if not is_sequence(edits) or not 1 <= len(edits) <= MOST_TRIED:
        raise BadEdit(0, "many")
    check_goals(goals)
    lots = [((), pair)]
    while len(lots) > 0:
        found = [lot for lot, made in lots if all_are_met(made, goals) == due]
        if len(found) > 0:
            return tuple(found)
        lots = [grown for lot, made in lots for grown in longer_lots(lot, made, edits)]
    return ()


def find_mends(pair, edits, goals):
    """All lots with the fewest edits behind which every goal is met."""
    return least_lots(pair, edits, goals, True)


def find_spoilers(pair, edits, goals):
    """All lots with the fewest edits behind which some goal is not met."""
    return least_lots(pair, edits, goals, False)
