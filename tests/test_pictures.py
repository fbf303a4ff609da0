"""Tests of whatiftimes.pictures."""

import random
import re
import unittest
from fractions import Fraction

from tests.reference import lively_program, some_program, some_setting, some_slowness, wanted_run
from tests.values import NOT_NAMES, NOT_SLOWNESSES, OTHER_VALUES
from whatiftimes.errors import InvalidNumber, InvalidText, UnknownName
from whatiftimes.edits import gain
from whatiftimes.pictures import bars, read_table, table
from whatiftimes.programs import Program
from whatiftimes.regimes import profile
from whatiftimes.settings import Setting
from whatiftimes.shapes import Shape, flat

A = (("work", "p", 2), ("take", "m"), ("work", "q", 1), ("give", "m"))
B = (("work", "r", 3), ("take", "m"), ("work", "q", 1), ("give", "m"), ("work", "s", 10))
PROGRAM = Program((A, B))
ZERO = (0, 1)
ONE = (1, 1)
TWO = (2, 1)

LETTERS = {"work": "W", "take": "T", "give": "G", "put": "P", "get": "Q", "skip": "S", "await": "A"}


def wanted_bars(program, setting, part, x):
    rows = []
    journal = wanted_run(program, setting, part, x)[0]
    for task, steps in enumerate(program.tasks):
        row, end = f"{task} ", "-"
        for number, step, asked, done in journal:
            if number == task and step == len(steps):
                end = str(Fraction(*done))
            elif number == task:
                row += LETTERS[steps[step][0]]
                row += "+" if steps[step][0] != "work" and Fraction(*done) > Fraction(*asked) else ""
        rows.append(f"{row} {end}")
    return "\n".join(rows)


def some_shape(seed):
    """A shape with points and pieces, some of them None or needless, with and without an end."""
    source = random.Random(seed)

    def number():
        return source.choice((0, 1, -1, 3, -12, 10 ** 40, -10 ** 25))

    def time():
        value = Fraction(number(), source.choice((1, 2, 7, 10 ** 30)))
        return None if source.random() < 0.2 else (value.numerator, value.denominator)

    x = Fraction(source.randint(0, 3), source.randint(1, 3))
    pieces = [("at", (x.numerator, x.denominator), time())]
    for count in range(source.randint(0, 4)):
        y = x + Fraction(source.randint(1, 9), source.randint(1, 5))
        line = None if source.random() < 0.3 else (number(), number())
        low, high = (x.numerator, x.denominator), (y.numerator, y.denominator)
        pieces += [("between", low, high, line), ("at", high, time())]
        x = y
    if source.random() < 0.5:
        pieces.append(("between", pieces[-1][1], None, source.choice((None, (number(), number())))))
    return pieces


def word(time):
    return "-" if time is None else str(Fraction(*time))


def wanted_table(pieces):
    rows = []
    for piece in pieces:
        if piece[0] == "at":
            rows.append(f"at {word(piece[1])} {word(piece[2])}")
        else:
            line = "-" if piece[3] is None else f"{piece[3][0]}x{piece[3][1]:+d}"
            rows.append(f"between {word(piece[1])} {word(piece[2])} {line}")
    return "\n".join(rows)


class PictureTest(unittest.TestCase):
    def assert_place(self, place, text):
        with self.assertRaises(InvalidText) as caught:
            read_table(text)
        self.assertEqual(caught.exception.place, place, text)
        self.assertIs(type(caught.exception.place), type(place))


class Bars(PictureTest):
    def test_example(self):
        self.assertEqual(bars(PROGRAM, Setting(), "p", (5, 4)), "0 WTWG 7/2\n1 WT+WGW 29/2")

    def test_against_the_journals(self):
        stuck = 0
        for seed in range(250):
            program = some_program(seed) if seed % 2 else lively_program(seed)
            setting, x = some_setting(seed), some_slowness(seed)
            found = bars(program, setting, "p", x)
            self.assertEqual(found, wanted_bars(program, setting, "p", x))
            stuck += found.endswith("-")
        self.assertGreater(stuck, 10)

    def test_all_letters(self):
        steps = (("work", "p", 1), ("take", "m"), ("give", "m"), ("put", "q", 1), ("get", "q"), ("skip", 0, 1), ("await", 1))
        self.assertEqual(bars(Program((steps, ())), Setting(), "p", ONE), "0 WTGPQSA 1\n1  0")

    def test_all_that_can_wait(self):
        tasks = ((("take", "m"), ("get", "q"), ("work", "w", 2), ("give", "m"), ("work", "w", 1), ("get", "r"), ("get", "r")),
                 (("work", "w", 1), ("take", "m"), ("await", 0)),
                 (("work", "w", 2), ("put", "q", 1), ("put", "r", 1), ("put", "r", 1)))
        self.assertEqual(bars(Program(tasks), Setting(), "p", ONE), "0 TQ+WGWQQ 5\n1 WT+A+ 5\n2 WPPP+ 5")

    def test_works_have_no_plus(self):
        self.assertEqual(bars(Program(((("work", "p", 5), ("work", "w", 0)),)), Setting(), "p", (1, 2)), "0 WW 5/2")

    def test_steps_that_are_left_out(self):
        self.assertEqual(bars(Program(((("skip", 0, 1), ("work", "w", 5), ("work", "w", 1)),)), Setting(), "p", ONE), "0 SW 1")

    def test_stuck_runs(self):
        self.assertEqual(bars(Program(((("get", "q"),),)), Setting(), "p", ONE), "0  -")
        self.assertEqual(bars(Program(((("give", "m"), ("get", "q"), ("work", "w", 1)), (("work", "w", 3),))), Setting(), "p", ONE), "0 G -\n1 W 3")

    def test_tasks_without_steps(self):
        self.assertEqual(bars(Program(((), ())), Setting(), "p", ONE), "0  0\n1  0")

    def test_great_times(self):
        program = Program(((("work", "p", 10 ** 30), ("take", "m")), ()))
        self.assertEqual(bars(program, Setting(), "p", (10 ** 29, 7)), f"0 WT {10 ** 59}/7\n1  0")

    def test_errors_in_order(self):
        for part in NOT_NAMES:
            with self.assertRaises(UnknownName) as caught:
                bars(PROGRAM, Setting(), part, None)
            self.assertIs(caught.exception.name, part)
        for x in NOT_SLOWNESSES:
            with self.assertRaises(InvalidNumber) as caught:
                bars(PROGRAM, Setting(), "p", x)
            self.assertIs(caught.exception.value, x)

    def test_by_name(self):
        self.assertEqual(bars(x=ONE, part="p", setting=Setting(), program=Program(((),))), "0  0")


class Tables(PictureTest):
    def test_example(self):
        self.assertEqual(table(profile(PROGRAM, Setting(), "p", ZERO, ONE)), "at 0 14\nbetween 0 1 0x+14\nat 1 14")

    def test_words(self):
        shape = Shape([("at", (1, 2), (-7, 3)), ("between", (1, 2), TWO, (2, 12)), ("at", TWO, None), ("between", TWO, (5, 2), (0, -3)),
                       ("at", (5, 2), ZERO), ("between", (5, 2), (7, 1), (-4, 0)), ("at", (7, 1), ONE), ("between", (7, 1), None, None)])
        self.assertEqual(table(shape), "at 1/2 -7/3\nbetween 1/2 2 2x+12\nat 2 -\nbetween 2 5/2 0x-3\nat 5/2 0\nbetween 5/2 7 -4x+0\n"
                                       "at 7 1\nbetween 7 - -")

    def test_one_point(self):
        self.assertEqual(table(flat(ONE, ONE, TWO)), "at 1 2")
        self.assertEqual(table(flat(ONE, ONE, None)), "at 1 -")
        self.assertEqual(table(flat(ONE, None, None)), "at 1 -\nbetween 1 - -")
        self.assertEqual(table(flat(ONE, None, (-2, 1))), "at 1 -2\nbetween 1 - 0x-2")

    def test_shortest_pieces_only(self):
        shape = Shape([("at", ZERO, ZERO), ("between", ZERO, ONE, (2, 0)), ("at", ONE, TWO), ("between", ONE, None, (2, 0))])
        self.assertEqual(table(shape), "at 0 0\nbetween 0 - 2x+0")

    def test_many_shapes_and_back(self):
        for seed in range(400):
            pieces = some_shape(seed)
            shape = Shape(pieces)
            self.assertEqual(table(shape), wanted_table(shape.pieces()))
            self.assertEqual(read_table(table(shape)), shape)
            # Needless points may stand there, too.
            self.assertEqual(read_table(wanted_table(pieces)), shape)

    def test_profiles_and_gains_and_back(self):
        for seed in range(40):
            for shape in (profile(lively_program(seed), some_setting(seed), "p", ZERO), profile(some_program(seed), some_setting(seed), "p", (1, 2), (3, 1)),
                          gain(lively_program(seed), lively_program(seed + 1), some_setting(seed), "p", ZERO)):
                self.assertEqual(read_table(table(shape)), shape)
                self.assertEqual(table(read_table(table(shape))), table(shape))

    def test_by_name(self):
        self.assertEqual(table(shape=read_table(text="at 1 2")), "at 1 2")


TABLE = ["at 1/2 -7/3", "between 1/2 2 2x+12", "at 2 -", "between 2 5/2 0x-3", "at 5/2 0", "between 5/2 - -4x+0"]

POINT = re.compile(r"at (\S+) (\S+)")
GAP = re.compile(r"between (\S+) (\S+) (\S+)")


def is_number(text):
    """Whether a text is a fraction as it is written."""
    return bool(re.fullmatch(r"(0|-?[1-9][0-9]*)(/[1-9][0-9]*)?", text)) and str(Fraction(text)) == text


def wanted_place(text):
    """The place at which a text is no table, or 'table'."""
    last = None
    rows = text.split("\n")
    for index, row in enumerate(rows):
        if index % 2 == 0:
            match = POINT.fullmatch(row)
            right = match and is_number(match[1]) and Fraction(match[1]) >= 0 and (match[2] == "-" or is_number(match[2]))
            if not right or index > 0 and last != match[1]:
                return index
            last = match[1]
        else:
            match = GAP.fullmatch(row)
            right = match and match[1] == last and (match[2] == "-" or is_number(match[2]) and Fraction(match[2]) > Fraction(match[1]))
            if not right or not (match[3] == "-" or re.fullmatch(r"(0|-?[1-9][0-9]*)x(\+0|[+-][1-9][0-9]*)", match[3])):
                return index
            last = match[2]
    return len(rows) if len(rows) % 2 == 0 and last != "-" else "table"


class ReadTables(PictureTest):
    def assert_as_wanted(self, text):
        place = wanted_place(text)
        if place == "table":
            self.assertIsInstance(read_table(text), Shape)
        else:
            self.assert_place(place, text)

    def assert_bad_row(self, index, row):
        """A row of the table put otherwise is the first one that is wrong."""
        self.assert_place(index, "\n".join(TABLE[:index] + [row] + TABLE[index + 1:]))

    def test_the_table_itself(self):
        self.assertEqual(table(read_table("\n".join(TABLE))), "\n".join(TABLE))

    def test_points_put_otherwise(self):
        for row in ("", " ", "at", "at 2", "at 2 ", "at  2 -", " at 2 -", "at 2 - ", "at 2 - -", "At 2 -", "at\t2 -", "2 -", "at 02 -", "at +2 -", "at -2 -",
                    "at 2/1 -", "at 4/2 -", "at 2 --", "at 2 +3", "at 2 03", "at 2 3/1", "at 2 6/4", "at 2 -0", "at 2 0/2", "at 2 1.5", "at 2 x", "at 2 None",
                    "at 2 3/", "at 2 /3", "at 2 3/-2", "at 2 3/0", "at x -", "at - -", "at 3 -", "at 1/2 -", "at 5/2 -", "between 2 5/2 0x-3", "at 2 0x+3",
                    "at 2 3 4", "at 2 -/2", "at 2 3 /2", "to 2 -"):
            self.assert_bad_row(2, row)

    def test_first_point_put_otherwise(self):
        for row in ("", "at", "at 1/2", "at -1/2 0", "at - 0", "at 2/4 0", "at -0 0", "at 1/2 0 0", "between 1/2 2 2x+12", "at +1/2 0", "at 0/2 0", "1/2 0"):
            self.assert_bad_row(0, row)

    def test_pieces_put_otherwise(self):
        for row in ("", "between", "between 1/2 2", "between 1/2 2 ", "between 1/2 2 2x", "between 1/2 2 x+12", "between 1/2 2 2x12", "between 1/2 2 2x+",
                    "between 1/2 2 2x-", "between 1/2 2 2x-0", "between 1/2 2 2x+012", "between 1/2 2 2x+-12", "between 1/2 2 2x--12", "between 1/2 2 02x+12",
                    "between 1/2 2 +2x+12", "between 1/2 2 -0x+12", "between 1/2 2 2x+12 ", "between 1/2  2 2x+12", "between 1/2 2 2X+12", "between 1/2 2 2x +12",
                    "between 1/2 2 2/3x+1", "between 1/2 2 2x+1/2", "between 1/2 2 2*x+12", "between 1/2 2 12", "between 1/2 2 --", "between 1/2 2 2x+12x",
                    "between 1/2 2 2xx+12", "between 1/2 4/2 2x+12", "between 1/2 2/1 2x+12", "between 1/2 02 2x+12", "between 1/2 +2 2x+12", "between 2/4 2 2x+12",
                    "between 1 2 2x+12", "between 0 2 2x+12", "between - 2 2x+12", "between 1/2 1/2 2x+12", "between 1/2 1/3 2x+12", "between 1/2 0 2x+12",
                    "between 1/2 -2 2x+12", "between 1/2 x 2x+12", "at 1/2 -7/3", "at 2 -", "Between 1/2 2 2x+12", "from 1/2 2 2x+12", "between 1/2 2 2x+12 -",
                    "between 1/2 2 x", "between 1/2 2 -x+1", "between 1/2 2 1x+1.0", "between 1/2 2 2x+1_2"):
            self.assert_bad_row(1, row)

    def test_piece_that_ends_elsewhere(self):
        # The row is written right, so the next one does not follow.
        self.assert_place(2, "\n".join(TABLE[:1] + ["between 1/2 3 2x+12"] + TABLE[2:]))
        self.assert_place(2, "\n".join(TABLE[:1] + ["between 1/2 - 2x+12"] + TABLE[2:]))

    def test_rows_left_out_doubled_and_put_elsewhere(self):
        for index in range(len(TABLE)):
            self.assert_as_wanted("\n".join(TABLE[:index] + TABLE[index + 1:]))
            self.assert_place(index + 1, "\n".join(TABLE[:index + 1] + TABLE[index:]))
            for other in range(len(TABLE)):
                rows = TABLE[:index] + TABLE[index + 1:]
                rows.insert(other, TABLE[index])
                self.assert_as_wanted("\n".join(rows))

    def test_one_character_changed(self):
        text = "\n".join(TABLE)
        for index in range(len(text)):
            self.assert_as_wanted(text[:index] + text[index + 1:])
            self.assert_as_wanted(text[:index] + text[index:index + 2][::-1] + text[index + 2:])
            for sign in "0125 /+-x\na":
                self.assert_as_wanted(text[:index] + sign + text[index + 1:])
                self.assert_as_wanted(text[:index] + sign + text[index:])

    def test_last_piece_is_not_there(self):
        self.assert_place(2, "\n".join(TABLE[:2]))
        self.assert_place(4, "\n".join(TABLE[:4]))
        for size in (1, 3, 5, 6):
            self.assertEqual(len(read_table("\n".join(TABLE[:size]))), size)

    def test_rows_behind_the_end(self):
        self.assert_place(6, "\n".join(TABLE + ["at 7 1"]))
        self.assert_place(6, "\n".join(TABLE + [""]))
        self.assert_place(6, "\n".join(TABLE + ["at - 1"]))
        self.assert_place(5, "\n".join(TABLE[:5] + [""]))
        self.assert_place(2, "at 0 0\nbetween 0 - 0x+0\nbetween 0 - 0x+0")

    def test_empty_texts(self):
        self.assert_place(0, "")
        self.assert_place(0, "\n")
        self.assert_place(0, " ")

    def test_first_of_several(self):
        self.assert_place(0, "no\nno")
        self.assert_place(1, "at 0 0\nno\nno")

    def test_no_text(self):
        for value in OTHER_VALUES + [b"at 0 0", ["at 0 0"], flat(ZERO, ZERO, ZERO), None]:
            if not isinstance(value, str):
                self.assert_place(None, value)


if __name__ == "__main__":
    unittest.main()
