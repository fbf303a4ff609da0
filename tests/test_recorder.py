"""Tests of whatiftimes.recorder."""

import re
import unittest
from fractions import Fraction

from tests.reference import lively_program, some_program, some_setting, some_slowness
from tests.values import NOT_NAMES, NOT_SLOWNESSES, OTHER_VALUES
from whatiftimes.errors import InvalidNumber, InvalidText, UnknownName
from whatiftimes.machines import Machine
from whatiftimes.programs import Program
from whatiftimes.recorder import read_journal, recovered, write_journal
from whatiftimes.runs import run
from whatiftimes.settings import Setting

A = (("work", "p", 2), ("take", "m"), ("work", "q", 1), ("give", "m"))
B = (("work", "r", 3), ("take", "m"), ("work", "q", 1), ("give", "m"), ("work", "s", 10))
PROGRAM = Program((A, B))
X = (5, 4)
ONE = (1, 1)

GOOD_ROW = re.compile(r"(0|[1-9][0-9]*) (0|[1-9][0-9]*) (0|-?[1-9][0-9]*)(/[1-9][0-9]*)? (0|-?[1-9][0-9]*)(/[1-9][0-9]*)? #(0|[1-9][0-9]*)")


def checked(body):
    """A row with its right check number, from all that stands ahead of the hash sign."""
    return f"{body}#{sum(code * place for place, code in enumerate(map(ord, body), start=1)) % 9973}\n"


def cases(many):
    for seed in range(many):
        yield some_program(seed) if seed % 2 else lively_program(seed), some_setting(seed), some_slowness(seed)


def wanted_row(program, row):
    """The entry of a row without its newline, or why it is not good."""
    match = GOOD_ROW.fullmatch(row)
    if not match:
        return "form"
    task, step, asked, done = row.split(" ")[:4]
    if int(task) >= len(program) or int(step) > len(program.tasks[int(task)]):
        return "form"
    times = []
    for word in (asked, done):
        number, bar, divisor = word.partition("/")
        value = Fraction(int(number), int(divisor or 1))
        if word != str(value):
            return "form"
        times.append((value.numerator, value.denominator))
    return (int(task), int(step), *times) if checked(row.split("#")[0]) == row + "\n" else "sum"


def wanted_reading(program, text):
    """What read_journal has to return, row by row, for a text."""
    journal = []
    while "\n" in text:
        row, newline, text = text.partition("\n")
        entry = wanted_row(program, row)
        if isinstance(entry, str):
            return (journal, entry)
        journal.append(entry)
    return (journal, "torn" if text else "end")


class RecorderTest(unittest.TestCase):
    def assert_reading(self, program, text):
        self.assertEqual(read_journal(program, text), wanted_reading(program, text), text)

    def assert_why(self, why, *rows, program=PROGRAM):
        """A good row, then these."""
        good = (0, 1, (0, 1), (3, 2))
        text = write_journal([good]) + "".join(rows)
        self.assertEqual(read_journal(program, text), ([good], why), text)


class Written(RecorderTest):
    def test_example(self):
        program = Program(((("work", "p", 2),),))
        text = write_journal(run(program, Setting(), "p", (3, 2))[0])
        self.assertEqual(text, "0 0 0 3 #1429\n0 1 3 3 #1447\n")
        self.assertEqual(read_journal(program, text[:-1]), ([(0, 0, (0, 1), (3, 1))], "torn"))

    def test_rows(self):
        self.assertEqual(write_journal([]), "")
        self.assertEqual(write_journal([(0, 1, (3, 2), (7, 2))]), checked("0 1 3/2 7/2 "))
        self.assertEqual(write_journal([(5, 20, (-1, 2), (-3, 1))]), checked("5 20 -1/2 -3 "))
        great = 10 ** 60
        self.assertEqual(write_journal([(0, 0, (great, 7), (great, 1))]), checked(f"0 0 {great}/7 {great} "))

    def test_check_number_beyond_the_modulus(self):
        text = write_journal([(0, 0, (10 ** 60, 1), (10 ** 60, 1))])
        self.assertLess(int(text.split("#")[1]), 9973)
        self.assertEqual(text, checked(f"0 0 {10 ** 60} {10 ** 60} "))

    def test_read_back(self):
        for program, setting, x in cases(200):
            journal = run(program, setting, "p", x)[0]
            text = write_journal(journal)
            self.assertEqual(text.count("\n"), len(journal))
            self.assertEqual(read_journal(program, text), (journal, "end"))

    def test_read_back_great_and_negative_times(self):
        journal = [(0, 0, (-7, 3), (10 ** 60, 10 ** 59 + 1)), (1, 5, (-10 ** 60, 1), (0, 1)), (0, 4, (1, 2), (1, 3))]
        self.assertEqual(read_journal(PROGRAM, write_journal(journal)), (journal, "end"))
        program = Program(((("work", "p", 10 ** 30),),))
        journal = run(program, Setting(), "p", (10 ** 59, 7))[0]
        self.assertEqual(read_journal(program, write_journal(journal)), (journal, "end"))

    def test_argument_stays(self):
        journal = [(0, 0, (0, 1), (3, 1))]
        write_journal(journal)
        self.assertEqual(journal, [(0, 0, (0, 1), (3, 1))])


class Read(RecorderTest):
    def test_empty_texts(self):
        self.assertEqual(read_journal(PROGRAM, ""), ([], "end"))
        self.assertEqual(read_journal(PROGRAM, "\n"), ([], "form"))
        self.assertEqual(read_journal(PROGRAM, " "), ([], "torn"))

    def test_cut_at_every_character(self):
        for program, setting, x in cases(12):
            journal = run(program, setting, "p", x)[0]
            text = write_journal(journal)
            rows = 0
            for size in range(len(text)):
                beginning = text[:size]
                rows = beginning.count("\n")
                why = "end" if beginning == "" or beginning.endswith("\n") else "torn"
                self.assertEqual(read_journal(program, beginning), (journal[:rows], why))

    def test_torn_whatever_it_is(self):
        for rest in ("x", "0 0 0 3 #1429", "#", " ", "0 0 0 3 #1", "task", "99 99 0 0 #0"):
            self.assert_why("torn", rest)

    def test_bad_row_ahead_of_a_torn_one(self):
        self.assert_why("form", "x\n", "y")
        self.assert_why("sum", "0 0 0 3 #1\n", "y")

    def test_one_character_changed_put_in_left_out_or_two_exchanged(self):
        text = write_journal(run(PROGRAM, Setting(), "p", X)[0])
        for index in range(len(text)):
            self.assert_reading(PROGRAM, text[:index] + text[index + 1:])
            self.assert_reading(PROGRAM, text[:index] + text[index:index + 2][::-1] + text[index + 2:])
            for sign in "0159 /#-+\nx\t.,":
                self.assert_reading(PROGRAM, text[:index] + sign + text[index + 1:])
                self.assert_reading(PROGRAM, text[:index] + sign + text[index:])
            for other in range(0, len(text), 7):
                signs = list(text)
                signs[index], signs[other] = signs[other], signs[index]
                self.assert_reading(PROGRAM, "".join(signs))

    def test_check_numbers(self):
        for number in ("-1429", "+1429", "01429", "001429", "", " 1429", "1429 ", "1 429", "1429.0", "1_429", "x", "-0", "#1429"):
            self.assert_why("form", f"0 0 0 3 #{number}\n")
        for number in (0, 1, 142, 1428, 1430, 9972, 9973, 1429 + 9973, 14290, 10 ** 60):
            self.assert_why("sum", f"0 0 0 3 #{number}\n")
        self.assertEqual(read_journal(PROGRAM, "0 0 0 3 #1429\n"), ([(0, 0, (0, 1), (3, 1))], "end"))
        # A body whose right check number is 0 is written with 0, and with nothing else.
        great = 31824001137523868211461561725055525063684
        self.assertEqual(read_journal(PROGRAM, f"0 0 0 {great} #0\n"), ([(0, 0, (0, 1), (great, 1))], "end"))
        self.assert_why("sum", f"0 0 0 {great} #9973\n")
        self.assert_why("form", f"0 0 0 {great} #00\n")
        self.assert_why("form", f"0 0 0 {great} #-0\n")

    def test_tasks_and_steps_that_do_not_fit(self):
        for task, step in ((2, 0), (0, 5), (1, 6), (0, 20), (7, 7), (10 ** 40, 0), (0, 10 ** 40)):
            self.assert_why("form", checked(f"{task} {step} 0 3 "))
            self.assert_why("form", f"{task} {step} 0 3 #0\n")
        for task, step in ((0, 4), (1, 5), (1, 0)):
            text = checked(f"{task} {step} 0 3 ")
            self.assertEqual(read_journal(PROGRAM, text), ([(task, step, (0, 1), (3, 1))], "end"))
        for task, step in (("-1", "0"), ("0", "-1"), ("-0", "0"), ("0", "-0"), ("00", "0"), ("0", "01"), ("+0", "0"), ("", "0"), ("a", "0")):
            self.assert_why("form", checked(f"{task} {step} 0 3 "))

    def test_times_that_are_not_written_so(self):
        bad = ("2/4", "4/2", "3/3", "0/2", "0/1", "3/1", "3/0", "0/0", "-0", "-0/2", "00", "03", "3/02", "03/2", "+3", "3/-2", "-3/-2",
               "3/+2", "--3", "3/", "/2", "/", "", "3//2", "3/2/5", "1.5", "x", "3 ", "-", "-/2", "3_0", "- 3", "2/1")
        for word in bad:
            self.assert_why("form", checked(f"0 0 {word} 3 "))
            self.assert_why("form", checked(f"0 0 3 {word} "))
            self.assert_why("form", f"0 0 3 {word} #5\n")
        for word, time in (("0", (0, 1)), ("-3", (-3, 1)), ("-3/2", (-3, 2)), ("3/2", (3, 2)), ("10/7", (10, 7))):
            text = checked(f"0 0 {word} {word} ")
            self.assertEqual(read_journal(PROGRAM, text), ([(0, 0, time, time)], "end"))

    def test_rows_of_another_form(self):
        bodies = ("0 0 0 3", "0 0 0  3 ", "0 0 0 3  ", " 0 0 0 3 ", "0  0 0 3 ", "0 0 0 ", "0 0 0 3 3 ", "", " ", "0,0,0,3 ", "0\t0 0 3 ",
                  "0 0 0 3\t", "(0, 0, 0, 3) ")
        for body in bodies:
            self.assert_why("form", checked(body))
        for row in ("0 0 0 3 1429\n", "0 0 0 3\n", "\n", "0 0 0 3 #1429 \n", "0 0 0 3 #1429\t\n", "#\n", "#0\n", "0 0 0 3 # 1429\n"):
            self.assert_why("form", row)

    def test_good_rows_behind_a_bad_one_are_not_read(self):
        good = checked("0 0 0 3 ")
        self.assert_why("form", "x\n", good, good)
        self.assert_why("sum", "0 0 0 3 #1\n", good)
        self.assert_why("form", "\n", good)

    def test_no_text(self):
        for value in OTHER_VALUES + [b"0 0 0 3 #1429\n", ["0 0 0 3 #1429\n"], PROGRAM]:
            if not isinstance(value, str):
                with self.assertRaises(InvalidText) as caught:
                    read_journal(PROGRAM, value)
                self.assertIs(caught.exception.place, None)

    def test_by_name(self):
        self.assertEqual(write_journal(journal=[]), "")
        self.assertEqual(read_journal(text="", program=PROGRAM), ([], "end"))

    def test_lists_belong_to_the_caller(self):
        text = write_journal(run(PROGRAM, Setting(), "p", X)[0])
        wanted = read_journal(PROGRAM, text)
        read_journal(PROGRAM, text)[0].clear()
        self.assertEqual(read_journal(PROGRAM, text), wanted)


class Recovered(RecorderTest):
    def assert_recovered(self, program, setting, x, text, size):
        """The machine has so many entries, has made few choices, and goes on to the whole run."""
        journal, waiting, total = run(program, setting, "p", x)
        machine = recovered(program, setting, "p", x, text)
        self.assertEqual(machine, Machine.behind(program, setting, "p", x, journal[:size]))
        self.assertEqual(machine.journal(), journal[:size])
        self.assertEqual((machine.finish(), machine.journal(), machine.waiting()), (total, journal, waiting))

    def sizes(self, program, setting, x):
        """The numbers of entries behind the choices of a run."""
        machine = Machine(program, setting, "p", x)
        sizes = [0]
        while not machine.is_over:
            machine.choose()
            sizes.append(len(machine))
        return sizes

    def test_every_beginning(self):
        for program, setting, x in cases(40):
            rows = write_journal(run(program, setting, "p", x)[0]).splitlines(keepends=True)
            sizes = self.sizes(program, setting, x)
            for many in range(len(rows) + 1):
                size = max(size for size in sizes if size <= many)
                text = "".join(rows[:many])
                self.assert_recovered(program, setting, x, text, size)
                self.assert_recovered(program, setting, x, text + "0 0", size)

    def test_entries_that_follow_at_once(self):
        program = Program(((("get", "q"),), (("work", "w", 1), ("put", "q", 3))))
        rows = write_journal(run(program, Setting(), "p", ONE)[0]).splitlines(keepends=True)
        for many, size in ((0, 0), (1, 1), (2, 1), (3, 3), (4, 4), (5, 5)):
            self.assert_recovered(program, Setting(), ONE, "".join(rows[:many]), size)
        machine = recovered(program, Setting(), "p", ONE, rows[0])
        self.assertEqual((machine.journal(), machine.waiting()), ([(1, 0, (0, 1), ONE)], [(0, 0)]))
        self.assertEqual(recovered(program, Setting(), "p", ONE, "").waiting(), [])

    def test_as_few_choices_as_possible(self):
        program = Program(((("work", "w", 1),), (("get", "q"),)))
        text = write_journal([(0, 0, (0, 1), ONE), (1, 0, ONE, ONE)])
        machine = recovered(program, Setting(), "p", ONE, text)
        self.assertEqual((machine.waiting(), machine.ready()), ([], [((0, 1), 1), (ONE, 0)]))

    def test_journal_of_another_run(self):
        journal = run(PROGRAM, Setting(), "p", X)[0]
        other = run(PROGRAM, Setting(), "p", (2, 1))[0]
        same = next(index for index in range(len(journal)) if journal[index] != other[index])
        size = max(size for size in self.sizes(PROGRAM, Setting(), X) if size <= same)
        self.assert_recovered(PROGRAM, Setting(), X, write_journal(other), size)
        for index in range(len(journal)):
            changed = journal[:index] + [(0, 0, (77, 1), (78, 1))] + journal[index + 1:]
            size = max(size for size in self.sizes(PROGRAM, Setting(), X) if size <= index)
            self.assert_recovered(PROGRAM, Setting(), X, write_journal(changed), size)

    def test_more_than_the_run(self):
        for program in (PROGRAM, Program(((("give", "m"), ("get", "q")),))):
            journal = run(program, Setting(), "p", X)[0]
            self.assert_recovered(program, Setting(), X, write_journal(journal + journal[-1:]), len(journal))

    def test_damaged_texts(self):
        text = write_journal(run(PROGRAM, Setting(), "p", X)[0])
        sizes = self.sizes(PROGRAM, Setting(), X)
        for index in range(len(text)):
            many = text[:index].count("\n")
            size = max(size for size in sizes if size <= many)
            self.assert_recovered(PROGRAM, Setting(), X, text[:index] + "x" + text[index + 1:], size)

    def test_errors_in_order(self):
        for part in NOT_NAMES:
            with self.assertRaises(UnknownName) as caught:
                recovered(PROGRAM, Setting(), part, None, None)
            self.assertIs(caught.exception.name, part)
        for x in NOT_SLOWNESSES:
            with self.assertRaises(InvalidNumber) as caught:
                recovered(PROGRAM, Setting(), "p", x, None)
            self.assertIs(caught.exception.value, x)
        for text in OTHER_VALUES + [b""]:
            if not isinstance(text, str):
                with self.assertRaises(InvalidText) as caught:
                    recovered(PROGRAM, Setting(), "p", X, text)
                self.assertIs(caught.exception.place, None)

    def test_by_name(self):
        machine = recovered(text="", x=X, part="p", setting=Setting(), program=PROGRAM)
        self.assertEqual(machine, Machine(PROGRAM, Setting(), "p", X))


if __name__ == "__main__":
    unittest.main()
