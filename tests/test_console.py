"""Tests of whatiftimes.console."""

import unittest
from fractions import Fraction

from tests.reference import lively_program, pair, some_program, wanted_run
from tests.values import OTHER_VALUES
from whatiftimes.bench import Bench
from whatiftimes.console import Console
from whatiftimes.errors import (
    InvalidCommand, InvalidNumber, InvalidProgram, InvalidRange, InvalidText, LimitExceeded, NothingToUndo, UnknownName,
)
from whatiftimes.pictures import read_table, table
from whatiftimes.programs import Program
from whatiftimes.regimes import profile
from whatiftimes.settings import Setting

# Together they are the program of the document's examples.
A = "task; work p 2; take m; work q 1; give m"
B = "task; work r 3; take m; work q 1; give m; work s 10"
ZERO = (0, 1)

COMMANDS = {
    "store": "store one task", "drop": "drop one", "undo": "undo", "names": "names", "show": "show one", "set": "set one 0 0 take m",
    "capacity": "capacity one q 2", "time": "time one p 1", "profile": "profile one p 0 1", "best": "best one p 0 1", "falls": "falls one p 0 1",
}

NOT_NAMES = ["One", "one1", "o_e", "1", "abcdefghi", "-", "one,", "\tone", "one\t", "0/1"]
NOT_NUMBERS = ["-1", "+1", "01", "00", "1.0", "x", "1/1", "1_0", "-", "-0", "1" * 61, "\t1", "one"]
NOT_SLOWNESSES = ["-1", "+1", "01", "00", "1.0", "x", "1/1", "2/4", "1/0", "0/1", "0/2", "1/", "/2", "1/-2", "-1/2", "-0", "1//2", "1/2/3", "1/02", "01/2", "1_0", "one", "None"]


def filled():
    console = Console()
    console.run(f"store one {A}; {B}")
    console.run("store two task; get q; task; work p 3")
    return console


def told(console):
    """All that a console tells."""
    bench = console.bench()
    states = [[(name, bench.kept(name)) for name in bench.names()]]
    while len(bench):
        bench.undo()
        states.append([(name, bench.kept(name)) for name in bench.names()])
    return (states, console.run("names"))


class ConsoleTest(unittest.TestCase):
    def assert_raises(self, console, error, attribute, wanted, command):
        """A command raises an error, and changes nothing."""
        before = told(console)
        with self.assertRaises(error) as caught:
            console.run(command)
        found = getattr(caught.exception, attribute)
        self.assertEqual(found, wanted, command)
        self.assertIs(type(found), type(wanted))
        self.assertIs(type(caught.exception), error)
        self.assertEqual(told(console), before)

    def assert_invalid(self, word, command):
        self.assert_raises(filled(), InvalidCommand, "word", word, command)


class Answers(ConsoleTest):
    def test_example(self):
        console = Console()
        commands = ("store one task; work p 2", "time one p 3/2", "set one 0 0 work p 4", "time one p 3/2", "undo", "profile one p 0 1")
        self.assertEqual([console.run(command) for command in commands], ["ok", "3", "ok", "6", "ok", "at 0 0; between 0 1 2x+0; at 1 2"])

    def test_names(self):
        console = Console()
        self.assertEqual(console.run("names"), "-")
        for name in ("two", "one", "abcdefgh"):
            self.assertEqual(console.run(f"store {name} task"), "ok")
        self.assertEqual(console.run("names"), "abcdefgh one two")

    def test_store_and_show(self):
        console = Console()
        for text in ("task", A, f"queue q 3; {A}; {B}", "queue a 2; queue b 9; task; task; await 0"):
            self.assertEqual(console.run(f"store one {text}"), "ok")
            self.assertEqual(console.run("show one"), text)
            self.assertEqual(console.bench().kept("one"), Program.read(text.replace("; ", "\n")))
        console.run("store one queue b 2; queue c 1; queue a 2; task")
        self.assertEqual(console.run("show one"), "queue a 2; queue b 2; task")

    def test_many_programs(self):
        console = Console()
        for seed in range(60):
            program = some_program(seed)
            text = program.text.replace("\n", "; ")
            self.assertEqual((console.run(f"store one {text}"), console.run("show one")), ("ok", text))
            self.assertEqual(console.bench().kept("one"), program)

    def test_drop_and_undo(self):
        console = filled()
        self.assertEqual((console.run("drop one"), console.run("names")), ("ok", "two"))
        self.assertEqual((console.run("undo"), console.run("names")), ("ok", "one two"))
        self.assertEqual((console.run("undo"), console.run("undo"), console.run("names")), ("ok", "ok", "-"))
        self.assert_raises(console, NothingToUndo, "name", "edits", "undo")

    def test_set(self):
        console = filled()
        self.assertEqual(console.run("set one 1 4 work s 11"), "ok")
        self.assertEqual(console.run("show one"), f"{A}; {B[:-2]}11")
        for step in ("work abcdefgh 1000000000000000000000000000000", "take m", "give m", "put q 9", "get q", "skip 9 20", "await 1"):
            self.assertEqual(console.run(f"set one 0 0 {step}"), "ok")
            self.assertEqual(console.run("show one"), f"{A.replace('work p 2', step)}; {B[:-2]}11")
        self.assertEqual(len(console.bench()), 10)

    def test_capacity(self):
        console = filled()
        self.assertEqual(console.run("capacity two q 9"), "ok")
        self.assertEqual(console.run("show two"), "queue q 9; task; get q; task; work p 3")
        self.assertEqual(console.run("capacity two q 1"), "ok")
        self.assertEqual(console.run("show two"), "task; get q; task; work p 3")
        self.assertEqual(console.run("capacity two other 3"), "ok")
        self.assertEqual(console.run("show two"), "queue other 3; task; get q; task; work p 3")

    def test_time(self):
        console = filled()
        for x, total in (("5/4", "29/2"), ("2", "14"), ("0", "14"), ("1000", "2001")):
            self.assertEqual(console.run(f"time one p {x}"), total)
        self.assertEqual(console.run("time one nothing 3"), "14")
        self.assertEqual(console.run(f"time one s {10 ** 59}"), str(10 ** 60 + 4))

    def test_time_of_stuck_programs(self):
        console = filled()
        self.assertEqual(console.run("time two p 1"), "stuck 0.0")
        console.run("store three task; take m; get q; task; await 0; task; work p 1; take m; task")
        self.assertEqual(console.run("time three p 1"), "stuck 0.1 1.0 2.1")

    def test_profile(self):
        console = filled()
        self.assertEqual(console.run("profile one p 0 1"), "at 0 14; between 0 1 0x+14; at 1 14")
        self.assertEqual(console.run("profile one p 1 1"), "at 1 14")
        self.assertEqual(console.run("profile two p 1/2 -"), "at 1/2 -; between 1/2 - -")
        self.assertEqual(console.run("profile one p 1 -"),
                         "at 1 14; between 1 3/2 2x+12; at 3/2 15; between 3/2 13/2 0x+14; at 13/2 14; between 13/2 - 2x+1")

    def test_best(self):
        console = filled()
        self.assertEqual(console.run("best one p 1 -"), "14 1 at")
        self.assertEqual(console.run("best one p 5/4 3/2"), "29/2 5/4 at")
        self.assertEqual(console.run("best one p 5/4 2"), "14 3/2 after")
        self.assertEqual(console.run("best two p 0 -"), "-")

    def test_falls(self):
        console = filled()
        self.assertEqual(console.run("falls one p 1 -"), "3/2")
        self.assertEqual(console.run("falls one p 2 -"), "-")
        self.assertEqual(console.run("falls two p 0 -"), "-")

    def test_against_the_functions(self):
        console = Console()
        several = 0
        for seed in range(60):
            program = lively_program(seed)
            console.run("store one " + program.text.replace("\n", "; "))
            for low, high, words in ((ZERO, None, "0 -"), ((1, 2), (3, 1), "1/2 3")):
                shape = profile(program, Setting(), "p", low, high)
                self.assertEqual(console.run(f"profile one p {words}"), table(shape).replace("\n", "; "))
                self.assertEqual(read_table(console.run(f"profile one p {words}").replace("; ", "\n")), shape)
                least, falls = shape.least(), shape.falls()
                best = "-" if least is None else f"{Fraction(*least[0])} {Fraction(*least[1])} {least[2]}"
                self.assertEqual(console.run(f"best one p {words}"), best)
                self.assertEqual(console.run(f"falls one p {words}"), " ".join(str(Fraction(*row[0])) for row in falls) or "-")
                several += len(falls) > 1
            x = Fraction(seed, 7)
            journal, waiting, total = wanted_run(program, Setting(), "p", pair(x))
            answer = str(Fraction(*total)) if total else "stuck " + " ".join(f"{task}.{step}" for task, step in waiting)
            self.assertEqual(console.run(f"time one p {x}"), answer)
        self.assertGreater(several, 0)

    def test_bench_is_a_copy(self):
        console = filled()
        bench = console.bench()
        self.assertIs(type(bench), Bench)
        self.assertEqual((bench.names(), len(bench)), (["one", "two"], 2))
        bench.drop("one")
        bench.undo()
        bench.undo()
        bench.undo()
        self.assertEqual(console.run("names"), "one two")
        self.assertEqual(len(console.bench()), 2)
        console.run("drop one")
        self.assertEqual(bench.names(), [])
        self.assertEqual(Console().bench(), Bench())

    def test_consoles_are_independent(self):
        console, other = Console(), Console()
        console.run("store one task")
        self.assertEqual(other.run("names"), "-")

    def test_names_like_words(self):
        console = Console()
        console.run("store store task; work time 2; take undo")
        self.assertEqual((console.run("time store time 3"), console.run("names")), ("6", "store"))
        self.assertEqual(console.run("capacity store names 3"), "ok")
        self.assertEqual(console.run("drop store"), "ok")

    def test_by_name(self):
        self.assertEqual(Console().run(command="names"), "-")


class Errors(ConsoleTest):
    def test_no_texts(self):
        for value in OTHER_VALUES + [b"names", ["names"], Program(((),))]:
            if not isinstance(value, str):
                self.assert_raises(filled(), InvalidCommand, "word", None, value)

    def test_newlines_anywhere(self):
        for command in list(COMMANDS.values()) + ["store one task; task", "nothing", "store one no"]:
            for text in ("\n" + command, command + "\n", command.replace(" ", "\n", 1) if " " in command else "\n", command[:3] + "\n" + command[3:]):
                self.assert_invalid(None, text)
        self.assert_invalid(None, "store one task\ntask")

    def test_empty_words(self):
        for command in list(COMMANDS.values()) + ["nothing at all"]:
            self.assert_invalid(None, " " + command)
            if not command.startswith("store"):
                self.assert_invalid(None, command + " ")
                self.assert_invalid(None, command.replace(" ", "  ") + (" " if " " not in command else ""))
        for command in ("", " ", "  ", "store ", "store  one task", "store  ", " store one task", "set one 0 0 take  m", "set one 0 0 ", "set one 0 0  take m",
                        "nothing ", " nothing"):
            self.assert_invalid(None, command)

    def test_empty_words_in_texts(self):
        for text, place in (("task ", 0), (" task", 0), ("task;  take m", 1), ("task; take  m", 1), (" ", 0), ("  ", 0), ("task; ", 1), ("task; ; take m", 1)):
            self.assert_raises(filled(), InvalidText, "place", place, f"store one {text}")
        self.assert_invalid("store", "store one ")
        self.assert_invalid("store", "store one")
        self.assert_invalid("store", "store")

    def test_other_first_words(self):
        for command in ("nothing", "Names", "names\t", "stores one task", "store,one", "-", "0", "task", "quit", "help me", "run one", "time.one", "NAMES"):
            self.assert_invalid(command.split(" ")[0], command)

    def test_numbers_of_words(self):
        for word, command in COMMANDS.items():
            words = command.split(" ")
            for size in range(1, len(words)):
                if not (word == "set" and size == 5):
                    self.assert_invalid(word, " ".join(words[:size]))
            if word not in ("store", "set"):
                self.assert_invalid(word, command + " one")
                self.assert_invalid(word, command + " 1")
                self.assert_invalid(word, command + " -")

    def test_names_that_are_none(self):
        for name in NOT_NAMES:
            for word in COMMANDS:
                if word not in ("undo", "names"):
                    self.assert_invalid(word, COMMANDS[word].replace(" one", f" {name}", 1))
            for command in ("time one {} 1", "profile one {} 0 1", "best one {} 0 1", "falls one {} 0 1", "capacity one {} 2"):
                self.assert_invalid(command.split(" ")[0], command.format(name))

    def test_numbers_that_are_not_written_so(self):
        for number in NOT_NUMBERS:
            self.assert_invalid("set", f"set one {number} 0 take m")
            self.assert_invalid("set", f"set one 0 {number} take m")
            self.assert_invalid("capacity", f"capacity one q {number}")

    def test_slownesses_that_are_not_written_so(self):
        for word in NOT_SLOWNESSES:
            self.assert_invalid("time", f"time one p {word}")
            for first in ("profile", "best", "falls"):
                self.assert_invalid(first, f"{first} one p {word} -")
                self.assert_invalid(first, f"{first} one p 0 {word}")
        self.assert_invalid("time", "time one p -")
        for first in ("profile", "best", "falls"):
            self.assert_invalid(first, f"{first} one p - 1")
            self.assert_invalid(first, f"{first} one p - -")
            self.assert_invalid(first, f"{first} one p 0 --")

    def test_numbers_of_sixty_digits(self):
        great = "1" * 60
        self.assert_raises(filled(), InvalidNumber, "value", int(great), f"set one {great} 0 take m")
        self.assert_raises(filled(), InvalidNumber, "value", int(great), f"set one 0 {great} take m")
        self.assert_raises(filled(), InvalidProgram, "place", "capacities", f"capacity one q {great}")
        self.assertEqual(filled().run(f"time one z {great}"), "14")

    def test_texts(self):
        for text, place in (("no", 0), ("task; no", 1), ("queue q 2", 1), ("task; await 1", 1), ("task;take m", 0), ("task;", 0), ("task ; take m", 0),
                            ("queue q 2; queue q 2; task", 1), ("; task", 0), (";", 0)):
            self.assert_raises(filled(), InvalidText, "place", place, f"store one {text}")
            self.assert_raises(filled(), InvalidText, "place", place, f"store new {text}")

    def test_steps(self):
        for text in ("no", "task", "take", "take m m", "work p 01", "await 6", "await 7", "skip 0 0", "take m;", "take m; take m", "queue q 2"):
            self.assert_raises(filled(), InvalidText, "place", 0, f"set one 0 0 {text}")
            # Whatever else is wrong behind it.
            self.assert_raises(filled(), InvalidText, "place", 0, f"set nothing 9 9 {text}")

    def test_await_of_a_program_with_fewer_tasks(self):
        self.assert_raises(filled(), InvalidProgram, "place", (0, 1), "set one 0 1 await 2")
        self.assert_raises(filled(), InvalidProgram, "place", (1, 0), "set one 1 0 await 5")
        self.assertEqual(filled().run("set one 0 1 await 1"), "ok")

    def test_names_under_which_nothing_is_kept(self):
        for word, command in COMMANDS.items():
            if word not in ("store", "undo", "names"):
                self.assert_raises(filled(), UnknownName, "name", "nothing", command.replace(" one", " nothing", 1))
        self.assert_raises(filled(), UnknownName, "name", "nothing", "set nothing 9 9 take m")
        self.assert_raises(filled(), UnknownName, "name", "nothing", "capacity nothing q 99")
        self.assert_raises(filled(), UnknownName, "name", "nothing", "profile nothing p 2 1")

    def test_errors_of_the_functions(self):
        console = filled()
        self.assert_raises(console, InvalidNumber, "value", 2, "set one 2 9 take m")
        self.assert_raises(console, InvalidNumber, "value", 4, "set one 0 4 await 3")
        for number in ("0", "10", "99"):
            self.assert_raises(console, InvalidProgram, "place", "capacities", f"capacity one q {number}")
        for word in ("profile", "best", "falls"):
            self.assert_raises(console, InvalidRange, "value", ((2, 1), (3, 2)), f"{word} one p 2 3/2")

    def test_thirteenth_name(self):
        console = Console()
        for name in "abcdefghijkl":
            console.run(f"store {name} task")
        self.assert_raises(console, LimitExceeded, "limit", 12, "store m task")
        self.assert_raises(console, InvalidText, "place", 0, "store m no")
        self.assertEqual(console.run("store a task; task"), "ok")


if __name__ == "__main__":
    unittest.main()
