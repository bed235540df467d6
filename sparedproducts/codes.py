"""Codes: straight lists of steps that make both answers of a pair.

Values are numbered: the left letters, the right letters, and then what each step makes.
"""

from sparedproducts.errors import BadCode, BadProgram
from sparedproducts.pairs import Pair
from sparedproducts.programs import MOST_PRODUCTS, Program, does_something, first_not_zero, is_side
from sparedproducts.ratios import is_sequence, is_whole
from sparedproducts.solving import row_scaled, row_sum, unit_table, zero_row
from sparedproducts.tables import check_letters

WORDS = ("sum", "less", "by", "product")
MOST_STEPS = 700


def check_step(figures, sides, step, index):
    """The side of the value that a step makes, given those of the earlier values."""
    if not is_sequence(step) or len(step) != 3 or step[0] not in WORDS:
        raise BadCode(index, "shape")
    word, one, other = step
    most = len(sides) - 1
    if not is_whole(one, 0, most) or (word != "by" and not is_whole(other, 0, most)):
        raise BadCode(index, "value")
    if word == "product":
        if sides[one] != "left" or sides[other] != "right":
            raise BadCode(index, "side")
        return "answer"
    if word != "by" and sides[one] != sides[other]:
        raise BadCode(index, "side")
    if word == "by" and not figures.is_number(other):
        raise BadCode(index, "number")
    return sides[one]


def is_told(thing, sides):
    """Whether the thing is a couple, each of it None or a value of the side "answer"."""
    if not is_sequence(thing) or len(thing) != 2:
        return False
    return all([value is None or (is_whole(value, 0, len(sides) - 1) and sides[value] == "answer")
                for value in thing])


def letter_sides(rows, columns):
    """The sides of the letters."""
    return ["left"] * rows + ["right"] * columns


class Code:
    """Steps that each make a value of earlier ones; told has the value of each answer, or None for 0."""

    def __init__(self, figures, rows, columns, steps, told):
        if not is_side(figures, rows):
            raise BadCode(0, "rows")
        if not is_side(figures, columns):
            raise BadCode(0, "columns")
        if not is_sequence(steps) or len(steps) > MOST_STEPS:
            raise BadCode(0, "many")
        sides = letter_sides(rows, columns)
        for index, step in enumerate(steps):
            sides.append(check_step(figures, sides, step, index))
        if not is_told(told, sides):
            raise BadCode(0, "told")
        self.figures = figures
        self.rows = rows
        self.columns = columns
        self.steps = tuple([tuple(step) for step in steps])
        self.told = tuple(told)

    def __eq__(self, other):
        return (isinstance(other, Code) and self.figures == other.figures and self.rows == other.rows
                and self.columns == other.columns and self.steps == other.steps and self.told == other.told)

    def __len__(self):
        return len(self.steps)


class Counted:
    """The numbers of steps that add or take away, of those by a number, and of products."""

    def __init__(self, sums, sizes, products):
        self.sums = sums
        self.sizes = sizes
        self.products = products


def row_product(figures, one, other):
    """Each number of the one row times each number of the other row, as one row."""
    made = ()
    for number in one:
        made = made + row_scaled(figures, number, other)
    return made


def sum_or_share(figures, values, step):
    """What a step that is no product makes of the earlier values, each a row of numbers."""
    word, one, other = step
    if word == "by":
        return row_scaled(figures, other, values[one])
    if word == "sum":
        return row_sum(figures, values[one], values[other])
    return tuple([figures.minus(left, right) for left, right in zip(values[one], values[other])])


def values_of(code, letters, products=None):
    """All values as rows of numbers, given those of the letters, and perhaps those of the products."""
    figures = code.figures
    values = list(letters)
    met = 0
    for step in code.steps:
        if step[0] != "product":
            values.append(sum_or_share(figures, values, step))
        elif products is None:
            values.append(row_product(figures, values[step[1]], values[step[2]]))
        else:
            values.append(products[met])
            met += 1
    return values


def unit_letters(code):
    """Each letter as the row of numbers that has one at its own place."""
    return unit_table(code.figures, code.rows) + unit_table(code.figures, code.columns)


def told_row(code, values, answer, many):
    """The row of an answer, zeros if it is always 0."""
    told = code.told[answer]
    return zero_row(code.figures, many) if told is None else values[told]


def run_code(code, left, right):
    """Both answers for numbers in the place of the letters, step by step."""
    left = check_letters(code.figures, left, code.rows, "left")
    right = check_letters(code.figures, right, code.columns, "right")
    values = values_of(code, [(number,) for number in left + right])
    return told_row(code, values, 0, 1)[0], told_row(code, values, 1, 1)[0]


def told_table(code, values, answer):
    """The table of an answer, given the values for unit letters."""
    row = told_row(code, values, answer, code.rows * code.columns)
    return [row[place:place + code.columns] for place in range(0, len(row), code.columns)]


def code_pair(code):
    """The pair that the code answers for all letters."""
    values = values_of(code, unit_letters(code))
    return Pair(code.figures, told_table(code, values, 0), told_table(code, values, 1))


def steps_counted(code):
    """How many steps of each kind the code has."""
    words = [step[0] for step in code.steps]
    return Counted(words.count("sum") + words.count("less"), words.count("by"), words.count("product"))


def program_of(code):
    """The program with one product for each product step, in their order."""
    figures = code.figures
    many = steps_counted(code).products
    if many > MOST_PRODUCTS:
        raise BadProgram(0, "many")
    values = values_of(code, unit_letters(code), unit_table(figures, many))
    sides = [(values[one], values[other]) for word, one, other in code.steps if word == "product"]
    ends = list(zip(told_row(code, values, 0, many), told_row(code, values, 1, many)))
    return Program(figures, code.rows, code.columns, [side + end for side, end in zip(sides, ends)])


def put_step(steps, ahead, step):
    """Puts a step behind the others and returns the number of its value, ahead values being those of letters."""
    steps.append(step)
    return ahead + len(steps) - 1


def put_share(figures, steps, ahead, value, number):
    """The number of a value times a number that is not 0."""
    return value if number == figures.one else put_step(steps, ahead, ("by", value, number))


def put_more(steps, ahead, total, value):
    """The number of the sum of two values, the first of which may be None for 0."""
    return value if total is None else put_step(steps, ahead, ("sum", total, value))


def put_letters(figures, steps, ahead, first, row):
    """The number of the sum of the letters from the first one on, each times its number of the row."""
    total = None
    for place, number in enumerate(row):
        if number != figures.zero:
            total = put_more(steps, ahead, total, put_share(figures, steps, ahead, first + place, number))
    return total


def code_of(program):
    """A code that answers the same pair, with one product step for each product that does something."""
    figures = program.figures
    ahead = program.rows + program.columns
    steps = []
    told = [None, None]
    for entry in program:
        if does_something(figures, entry):
            one = put_letters(figures, steps, ahead, 0, entry[0])
            other = put_letters(figures, steps, ahead, program.rows, entry[1])
            made = put_step(steps, ahead, ("product", one, other))
            for answer, number in enumerate(entry[2:]):
                if number != figures.zero:
                    share = put_share(figures, steps, ahead, made, number)
                    told[answer] = put_more(steps, ahead, told[answer], share)
    return Code(figures, program.rows, program.columns, steps, told)


def told_values(code, values):
    """The values told, None in the place of one that is 0 for all letters."""
    return [None if value is None or first_not_zero(code.figures, values[value]) is None else value
            for value in code.told]


def value_sides(code):
    """The sides of all values."""
    sides = letter_sides(code.rows, code.columns)
    for word, one, _ in code.steps:
        sides.append("answer" if word == "product" else sides[one])
    return sides


def first_equals(code, values):
    """For each value the first one of its side that is equal for all letters."""
    known = {}
    firsts = []
    for place, (side, row) in enumerate(zip(value_sides(code), values)):
        firsts.append(known.setdefault((side, row), place))
    return firsts


def led_step(step, places):
    """The step with its values replaced by those at their places."""
    word, one, other = step
    return (word, places[one], other if word == "by" else places[other])


def reached_values(code, firsts, told):
    """The values, by their first equals, from which an answer is reached, as a dict of True."""
    ahead = code.rows + code.columns
    reached = {value: True for value in told if value is not None}
    for index in reversed(range(len(code.steps))):
        if ahead + index in reached:
            word, one, other = led_step(code.steps[index], firsts)
            reached[one] = True
            if word != "by":
                reached[other] = True
    return reached


def thinned_code(code):
    """The code without steps that make a value again or reach no answer."""
    ahead = code.rows + code.columns
    values = values_of(code, unit_letters(code))
    firsts = first_equals(code, values)
    told = [None if value is None else firsts[value] for value in told_values(code, values)]
    reached = reached_values(code, firsts, told)
    places = {letter: letter for letter in range(ahead)}
    made = []
    for index, step in enumerate(code.steps):
        if ahead + index in reached:
            made.append(led_step(led_step(step, firsts), places))
            places[ahead + index] = ahead + len(made) - 1
    told = [None if value is None else places[value] for value in told]
    return Code(code.figures, code.rows, code.columns, made, told)
