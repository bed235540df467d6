"""Promises 6.01, 6.07: texts of pairs and programs, sign by sign and back, and from a text onwards [1.11], [1.12]."""

import re
import unittest

from drawnblocks import drawn_kinds
from drawnprograms import any_program, drawn_program, drawn_row, idle_product
from helpers import PRIMES, all_figures, drawer, drawn_pair, long_number, most_sides, numbers, pair, raised
from sparedproducts.codes import code_of, code_pair, program_of, run_code
from sparedproducts.counts import fewest_of
from sparedproducts.figures import Figures
from sparedproducts.making import least_program, making_fault
from sparedproducts.pairs import Pair
from sparedproducts.pairtext import pair_text, read_pair
from sparedproducts.programs import Program, is_right
from sparedproducts.programtext import program_text, read_program
from sparedproducts.ratios import make_ratio
from sparedproducts.turnedabout import turned_about
from sparedproducts.twins import alike_programs

NO_TEXTS = (None, 3, True, b"pair 0\n1\nand\n1", ["pair 0", "1", "and", "1"], ("program 0 1 1",), {}, 1.0)


def word_of(figures, number):
    if figures.prime:
        return str(number)
    return str(number[0]) if number[1] == 1 else "%d/%d" % number


def words_of(figures, row):
    return " ".join(word_of(figures, number) for number in row)


def pair_lines(given):
    figures = given.figures
    rows = [[words_of(figures, row) for row in table] for table in (given.first, given.second)]
    return ["pair %d" % figures.prime] + rows[0] + ["and"] + rows[1]


def program_lines(program):
    figures = program.figures
    lines = ["program %d %d %d" % (figures.prime, program.rows, program.columns)]
    return lines + [" | ".join(words_of(figures, row) for row in (u, v, (c, d))) for u, v, c, d in program]


def fits_number(prime, word):
    """Whether a word is the text of a number, by its form alone."""
    if prime:
        return word in [str(rest) for rest in range(prime)]
    found = re.fullmatch(r"(0|-?[1-9][0-9]{0,299})(/([1-9][0-9]{0,299}))?", word)
    if not found:
        return False
    if found.group(2) is None:
        return True
    top, bottom = int(found.group(1)), int(found.group(3))
    return bottom > 1 and make_ratio(top, bottom) == (top, bottom)


def fits_row(prime, line, many):
    words = line.split(" ")
    return len(words) == many and all(fits_number(prime, word) for word in words)


def wrong_pair_line(text):
    """The place that [1.11] tells, line by line, or None for the text of a pair."""
    lines = text.split("\n")
    if lines[0] not in ["pair %d" % prime for prime in (0,) + PRIMES]:
        return 0
    prime = int(lines[0][5:])
    most = min(5, prime) if prime else 5
    columns, rows, state = None, 0, "first"
    for place, line in enumerate(lines[1:], 1):
        if state == "first" and rows and line == "and":
            left, state = rows, "second"
            continue
        if columns is None:
            columns = len(line.split(" "))
        if state == "first":
            if rows == most or columns > most or not fits_row(prime, line, columns):
                return place
            rows += 1
        else:
            if left == 0 or not fits_row(prime, line, columns):
                return place
            left -= 1
    return None if state == "second" and left == 0 else len(lines)


def wrong_program_line(text):
    lines = text.split("\n")
    heads = {"program %d %d %d" % (prime, rows, columns): (prime, rows, columns) for prime in (0,) + PRIMES
             for rows in range(1, (min(5, prime) if prime else 5) + 1)
             for columns in range(1, (min(5, prime) if prime else 5) + 1)}
    if lines[0] not in heads:
        return 0
    prime, rows, columns = heads[lines[0]]
    for place, line in enumerate(lines[1:], 1):
        parts = line.split(" | ")
        if place > 30 or len(parts) != 3:
            return place
        if not all(fits_row(prime, part, many) for part, many in zip(parts, (rows, columns, 2))):
            return place
    return None


def no_number_words(figures):
    """Words that are the text of no number of the figures."""
    words = ["", "+1", "-0", "00", "01", "1.0", "x", "1e1", "--1", "1-", "0x1", "1_0", "1,", "|", "and", "-", "/", "pair"]
    if figures.prime:
        return words + ["-1", str(figures.prime), str(figures.prime + 10), "1/2", "1/1", "010"]
    return words + ["1/1", "2/4", "0/1", "0/2", "1/0", "-1/-2", "1/-2", "1/", "/2", "1/2/3", "01/2", "1/02", "-01/2", "1//2",
                    "+1/2", "1/+2", "-0/3", "6/3", "1" * 301, "-" + "1" * 301, "1/" + "3" * 301, "1" * 301 + "/2"]


def spoiled(lines, draw, figures):
    """Texts that differ from the one of the lines by one line spoiled, dropped, doubled or put in, and so on."""
    found = []
    for place, line in enumerate(lines):
        ahead, behind = lines[:place], lines[place + 1:]
        for other in ("", " ", line + " ", " " + line, line.replace(" ", "  ", 1), line + " 1", line[:-1], line.upper(),
                      "and", "pair 0", "program 0 1 1", line.replace(" ", ""), line.replace(" | ", "|"), line + " | 1",
                      line.replace(" | ", " ", 1), line.rsplit(" ", 1)[0], "0", line + "\t", line + "\r"):
            found.append(ahead + [other] + behind)
        words = line.split(" ")
        for word in draw.sample(no_number_words(figures), 6):
            at = draw.randrange(len(words))
            found.append(ahead + [" ".join(words[:at] + [word] + words[at + 1:])] + behind)
        found += [ahead + behind, ahead + [line, line] + behind, ahead + [""] + [line] + behind, ahead + [line],
                  ahead + ["and", line] + behind, ahead + [draw.choice(lines), line] + behind]
    found += [lines + [""], lines + ["and"], lines + ["0"], [""] + lines, lines[:1], [], [""], lines + lines]
    return ["\n".join(other) for other in found]


class PairTextTest(unittest.TestCase):

    def judge(self, given):
        text = pair_text(given)
        self.assertEqual(text, "\n".join(pair_lines(given)))
        self.assertEqual(read_pair(text), given)
        self.assertEqual(pair_text(read_pair(text)), text)
        return text

    def test_sign_by_sign_and_back(self):
        draw = drawer(471)
        for figures in all_figures():
            for rows in range(1, most_sides(figures) + 1):
                for columns in range(1, most_sides(figures) + 1):
                    self.judge(drawn_pair(figures, draw, rows, columns, draw.choice((0, 0.6, 1))))
        figures = Figures(0)
        self.assertEqual(pair_text(pair(figures, ((1, (-1, 2)), (0, -3)), (((7, 3), 0), (10, 1)))),
                         "pair 0\n1 -1/2\n0 -3\nand\n7/3 0\n10 1")
        self.assertEqual(pair_text(pair(Figures(13), ((12,),), ((0,),))), "pair 13\n12\nand\n0")

    def test_long_numbers(self):
        draw = drawer(472)
        figures = Figures(0)
        for digits in (20, 64, 65, 128, 299, 300):
            cells = [long_number(draw, digits) for _ in range(8)]
            text = self.judge(Pair(figures, (cells[:2], cells[2:4]), (cells[4:6], cells[6:])))
            self.assertIsNone(wrong_pair_line(text))
        # 0s within long numbers, and numbers longer than a text may have.
        for top in (10 ** 299, 10 ** 64, 10 ** 128 + 7, 10 ** 192, 10 ** 64 - 1):
            self.judge(Pair(figures, (((top, 1), (-top, 1)),), (((1, top), (0, 1)),)))
        for digits in (300, 301, 5000, 9001):
            for number in ((10 ** digits, 1), (-10 ** digits - 3, 1), (1, 10 ** digits + 9)):
                text = pair_text(Pair(figures, ((number,),), (((0, 1),),)))
                due = ("-" if number[0] < 0 else "") + "1" + ("/1" if number[1] > 1 else "")
                end = {0: "0" * digits, -3: "0" * (digits - 1) + "3", 9: "0" * (digits - 1) + "9"}
                key = 9 if number[1] > 1 else -3 if number[0] < 0 else 0
                self.assertEqual(text, "pair 0\n" + due + end[key] + "\nand\n0")
                self.assertEqual(raised(read_pair, text), ("BadText", (1,)))

    def test_the_first_wrong_line(self):
        draw = drawer(473)
        places = set()
        for figures in all_figures():
            for _ in range(3):
                rows, columns = draw.randint(1, most_sides(figures)), draw.randint(1, most_sides(figures))
                lines = pair_lines(drawn_pair(figures, draw, rows, columns))
                for text in spoiled(lines, draw, figures):
                    place = wrong_pair_line(text)
                    places.add(place)
                    if place is None:
                        self.assertEqual(pair_text(read_pair(text)), text)
                    else:
                        self.assertEqual(raised(read_pair, text), ("BadText", (place,)), text)
        self.assertLessEqual(set(range(8)) | {None}, places)

    def test_words_that_are_no_numbers(self):
        for figures in all_figures():
            for word in no_number_words(figures):
                self.assertFalse(fits_number(figures.prime, word))
                for at, place in ((0, 1), (1, 2), (2, 4), (3, 5)):
                    lines = ["pair %d" % figures.prime, "0 1", "1 0", "and", "1 1", "0 0"]
                    cells = lines[place].split(" ")
                    lines[place] = " ".join([cells[0], word] if at % 2 else [word, cells[1]])
                    self.assertEqual(raised(read_pair, "\n".join(lines)), ("BadText", (place,)), word)

    def test_heads(self):
        for head in ("", "pair", "pair ", "pair 1", "pair 4", "pair 17", "pair 05", "pair 00", "pair -0", "pair +5", "pair 5 ",
                     " pair 5", "pair  5", "Pair 5", "pair5", "pair 5 5", "program 5", "and", "5", "pair x", "pair 5/1",
                     "pair " + "5" * 301, "pairs 5", "pair 0.0"):
            for rest in ("", "\n1\nand\n1", "\nx"):
                self.assertEqual(raised(read_pair, head + rest), ("BadText", (0,)), head)

    def test_sizes(self):
        for figures in all_figures():
            most = most_sides(figures)
            head = "pair %d" % figures.prime
            wide = " ".join("0" * most)
            self.assertEqual(read_pair("\n".join([head] + [wide] * most + ["and"] + [wide] * most)).rows, most)
            more = [head] + [wide] * (most + 1) + ["and"] + [wide] * (most + 1)
            self.assertEqual(raised(read_pair, "\n".join(more)), ("BadText", (most + 1,)))
            more = [head] + [wide] * most + ["and"] + [wide] * (most + 1)
            self.assertEqual(raised(read_pair, "\n".join(more)), ("BadText", (2 * most + 2,)))
            self.assertEqual(raised(read_pair, "\n".join([head, wide + " 0", "and", wide + " 0"])), ("BadText", (1,)))
            less = [head] + [wide] * most + ["and"] + [wide] * (most - 1)
            self.assertEqual(raised(read_pair, "\n".join(less)), ("BadText", (2 * most + 1,)))
            for text, place in (("", 1), ("\n0", 2), ("\n0\nand", 3), ("\nand", 1), ("\nand\n0", 1), ("\n", 1), ("\n0\n", 2),
                                ("\n0\nand\n", 3), ("\n0\nand\n0\n", 4), ("\n0\nand\n0\n\n", 4), ("\n0\nand\nand", 3),
                                ("\n0\nand\n0 0", 3), ("\n0 0\nand\n0", 3), ("\n0\n0 0\nand", 2), ("\n0 0\n0\nand", 2)):
                self.assertEqual(raised(read_pair, head + text), ("BadText", (place,)), text)

    def test_things_that_are_no_texts(self):
        for thing in NO_TEXTS:
            self.assertEqual(raised(read_pair, thing), ("BadText", (0,)))
            self.assertEqual(raised(read_program, thing), ("BadText", (0,)))


class ProgramTextTest(unittest.TestCase):

    def judge(self, program):
        text = program_text(program)
        self.assertEqual(text, "\n".join(program_lines(program)))
        self.assertEqual(read_program(text), program)
        self.assertEqual(program_text(read_program(text)), text)
        return text

    def test_sign_by_sign_and_back(self):
        draw = drawer(474)
        for figures in all_figures():
            for _ in range(12):
                self.judge(any_program(figures, draw))
            most = most_sides(figures)
            self.judge(drawn_program(figures, draw, most, most, 30))
            self.judge(Program(figures, 1, most, [idle_product(figures, 1, most)] * 30))
            self.assertEqual(self.judge(Program(figures, most, 1, ())), "program %d %d 1" % (figures.prime, most))
        figures = Figures(0)
        product = (numbers(figures, (1, (-1, 2))), numbers(figures, (0,)), (3, 1), (-4, 7))
        self.assertEqual(program_text(Program(figures, 2, 1, [product])), "program 0 2 1\n1 -1/2 | 0 | 3 -4/7")
        self.assertEqual(program_text(Program(Figures(13), 1, 1, [((12,), (0,), 1, 10)])), "program 13 1 1\n12 | 0 | 1 10")

    def test_long_numbers(self):
        draw = drawer(475)
        figures = Figures(0)
        for digits in (20, 65, 300):
            products = [tuple(tuple(long_number(draw, digits) for _ in range(2)) for _ in range(2))
                        + (long_number(draw, digits), long_number(draw, digits)) for _ in range(3)]
            self.judge(Program(figures, 2, 2, products))
        number = (10 ** 6000 + 1, 7)
        text = program_text(Program(figures, 1, 1, [((number,), ((1, 1),), (0, 1), (1, 1))]))
        self.assertEqual(text, "program 0 1 1\n1" + "0" * 5999 + "1/7 | 1 | 0 1")
        self.assertEqual(raised(read_program, text), ("BadText", (1,)))

    def test_the_first_wrong_line(self):
        draw = drawer(476)
        places = set()
        for figures in all_figures():
            for _ in range(3):
                lines = program_lines(any_program(figures, draw))
                for text in spoiled(lines, draw, figures):
                    place = wrong_program_line(text)
                    places.add(place)
                    if place is None:
                        self.assertEqual(program_text(read_program(text)), text)
                    else:
                        self.assertEqual(raised(read_program, text), ("BadText", (place,)), text)
        self.assertLessEqual(set(range(5)) | {None}, places)

    def test_words_that_are_no_numbers(self):
        for figures in all_figures():
            for word in no_number_words(figures):
                for at in range(6):
                    cells = ["1"] * 6
                    cells[at] = word
                    line = "%s %s | %s %s | %s %s" % tuple(cells)
                    text = "program %d 2 2\n1 1 | 1 1 | 1 1\n%s\nx" % (figures.prime, line)
                    self.assertEqual(raised(read_program, text), ("BadText", (2,)), word)

    def test_the_line_of_the_next_product(self):
        for figures in all_figures():
            head = "program %d 1 1" % figures.prime
            lines = [head] + ["1 | 1 | 1 0"] * 30
            self.assertEqual(len(read_program("\n".join(lines))), 30)
            self.assertEqual(raised(read_program, "\n".join(lines + lines[1:])), ("BadText", (31,)))
            self.assertEqual(raised(read_program, "\n".join(lines + [""])), ("BadText", (31,)))
            self.assertEqual(raised(read_program, "\n".join(lines[:5] + ["x"] + lines)), ("BadText", (5,)))

    def test_heads(self):
        heads = ["", "program", "program 5", "program 5 1", "program 5 1 1 1", "program 4 1 1", "program 5 0 1", "program 5 1 0",
                 "program 5 6 1", "program 5 1 6", "program 2 3 1", "program 3 1 4", "program 5 01 1", "program 05 1 1",
                 "program 5  1 1", "program 5 1 1 ", " program 5 1 1", "Program 5 1 1", "pair 5 1 1", "program 5 1 -1",
                 "program x 1 1", "program 5 x 1", "program 5 1 x", "program 5 1 1/1", "program 0 " + "1" * 301 + " 1"]
        for head in heads:
            for rest in ("", "\n1 | 1 | 1 1"):
                self.assertEqual(raised(read_program, head + rest), ("BadText", (0,)), head)

    def test_lines(self):
        for line in ("", "1", "1 | 1", "1 | 1 | 1", "1 | 1 | 1 1 1", "1 1 | 1 | 1 1", "1 | 1 1 | 1 1", "1|1|1 1", "1 |1 | 1 1",
                     "1 | 1 | 1 1 ", " 1 | 1 | 1 1", "1  | 1 | 1 1", "1 | 1 | 1  1", "1 | 1 | 1 1 | 1", "| 1 | 1 1", " | 1 | 1 1",
                     "1 |  | 1 1", "1 | 1 | 1 1\t", "1 | | 1 1"):
            self.assertEqual(raised(read_program, "program 5 1 1\n" + line), ("BadText", (1,)), line)
        self.assertEqual(raised(read_program, "program 5 1 1\n"), ("BadText", (1,)))


class OnwardsTest(unittest.TestCase):

    def judge(self, text, draw):
        """From a text to the pair, its least program, its text, its code and its other uses."""
        given = read_pair(text)
        figures = given.figures
        self.assertEqual(pair_text(given), text)
        making = least_program(given)
        program = making.program
        self.assertIsNone(making_fault(given, making))
        self.assertEqual(len(program), fewest_of(given).number)
        written = program_text(program)
        self.assertEqual(written, "\n".join(program_lines(program)))
        self.assertEqual(read_program(written), program)
        self.assertTrue(is_right(given, read_program(written)))
        code = code_of(program)
        self.assertEqual(code_pair(code), given)
        self.assertEqual(pair_text(code_pair(code)), text)
        self.assertIsNotNone(alike_programs(program_of(code), program))
        taps, x, y = drawn_row(figures, draw, 2), drawn_row(figures, draw, given.rows), drawn_row(figures, draw, given.columns)
        answers = given.answers(x, y)
        self.assertEqual(run_code(code, x, y), answers)
        self.assertEqual(program.run(x, y), answers)
        due = figures.zero
        for tap, answer in zip(taps, answers):
            due = figures.plus(due, figures.times(tap, answer))
        for by, one, other in (("y", x, y), ("x", y, x)):
            total = figures.zero
            for number, result in zip(other, turned_about(program, by=by)(taps, one)):
                total = figures.plus(total, figures.times(number, result))
            self.assertEqual(total, due)
        self.assertEqual(turned_about(program).back(), program)

    def test_drawn_pairs(self):
        draw = drawer(477)
        for _, _, given in drawn_kinds(478, 5):
            self.judge(pair_text(given), draw)

    def test_known_texts(self):
        draw = drawer(479)
        for text in ("pair 0\n1 0\n0 -1\nand\n0 1\n1 0", "pair 5\n1\nand\n0", "pair 2\n0 0\nand\n0 0",
                     "pair 13\n1 0 0\n0 1 0\nand\n0 12 0\n0 0 12", "pair 0\n1/2\n-3/7\nand\n0\n1"):
            self.judge(text, draw)

    def test_long_numbers(self):
        # The least program of such a pair has longer numbers than a text may have, but it is written all the same.
        draw = drawer(480)
        figures = Figures(0)
        cells = [long_number(draw, 300) for _ in range(8)]
        text = pair_text(Pair(figures, (cells[:2], cells[2:4]), (cells[4:6], cells[6:])))
        given = read_pair(text)
        program = least_program(given).program
        self.assertEqual(len(program), fewest_of(given).number)
        self.assertEqual(pair_text(program.pair()), text)
        self.assertEqual(pair_text(code_pair(code_of(program))), text)
        written = program_text(program)
        self.assertEqual(len(written.split("\n")), len(program) + 1)
        self.assertEqual(raised(read_program, written), ("BadText", (1,)))


if __name__ == "__main__":
    unittest.main()
