"""Tests over the whole program: its interface, who owns what, and all of it together."""

import copy
import importlib
import inspect
import random
import unittest
from fractions import Fraction

from tests.reference import lively_program, pair, some_program, some_setting, some_slowness, wanted_run
from whatiftimes.bench import Bench
from whatiftimes.console import Console
from whatiftimes.edits import best_setting, first_difference, gain, slopes
from whatiftimes.errors import InvalidJournal, InvalidNumber, InvalidProgram, InvalidShape, InvalidSighting
from whatiftimes.fractions import is_fraction, total_of
from whatiftimes.lines import is_line
from whatiftimes.machines import Machine
from whatiftimes.orders import befores, critical, kept_times, kept_total, slacks
from whatiftimes.papers import check_paper, make_paper, read_paper
from whatiftimes.pictures import bars, read_table, table
from whatiftimes.programs import Program, is_step
from whatiftimes.recorder import read_journal, recovered, write_journal
from whatiftimes.regimes import profile, regimes
from whatiftimes.runs import check_journal, events, run
from whatiftimes.settings import Setting
from whatiftimes.shapes import Shape, flat
from whatiftimes.sightings import is_shown, is_sighting, places
from whatiftimes.texts import read_program, read_step, write_program, write_step

ZERO = (0, 1)
ONE = (1, 1)

# The parameters of all functions, as the document names them.
FUNCTIONS = {
    "fractions": {"is_fraction": "(value)", "fraction": "(number, divisor)", "compared": "(one, other)", "total_of": "(some)", "middle": "(low, high)"},
    "lines": {"is_line": "(value)", "value_at": "(line, x)", "meeting": "(one, other)", "order_within": "(one, other, low, high)"},
    "programs": {"is_step": "(value, tasks)"},
    "runs": {"run": "(program, setting, part, x)", "events": "(program, setting, part, x)", "check_journal": "(program, setting, part, x, value)"},
    "orders": {"befores": "(program, journal)", "kept_times": "(program, setting, part, x, journal)", "kept_total": "(program, setting, part, journal)",
               "critical": "(program, setting, part, x)", "slacks": "(program, setting, part, x)"},
    "shapes": {"flat": "(low, high, time)"},
    "regimes": {"regimes": "(program, setting, part, low, high=None)", "profile": "(program, setting, part, low, high=None)"},
    "papers": {"make_paper": "(program, setting, part, low, high=None)", "check_paper": "(program, setting, part, low, high, value)", "read_paper": "(paper)"},
    "sightings": {"is_sighting": "(program, value)", "is_shown": "(program, setting, part, x, sighting)",
                  "places": "(program, setting, part, low, high, sightings)"},
    "edits": {"first_difference": "(one, other, setting, part, x)", "gain": "(one, other, setting, part, low, high=None)", "slopes": "(program, setting)",
              "best_setting": "(program, setting, costs, budget)"},
    "recorder": {"write_journal": "(journal)", "read_journal": "(program, text)", "recovered": "(program, setting, part, x, text)"},
    "pictures": {"bars": "(program, setting, part, x)", "table": "(shape)", "read_table": "(text)"},
    "texts": {"write_step": "(step)", "write_program": "(program)", "read_step": "(text, tasks)", "read_program": "(text)"},
}

CLASSES = {
    ("programs", "Program"): {
        "__init__": "(self, tasks, capacities=None)", "capacity": "(self, queue)", "parts": "(self)", "step": "(self, task, index)",
        "changed": "(self, task, index, step)", "with_step": "(self, task, index, step)", "without_step": "(self, task, index)",
        "with_capacity": "(self, queue, capacity)", "__len__": "(self)", "__eq__": "(self, other)", "read": "(text)"},
    ("settings", "Setting"): {
        "__init__": "(self, slownesses=None, *, rule='turn')", "slowness": "(self, part)", "with_slowness": "(self, part, slowness)",
        "__eq__": "(self, other)"},
    ("shapes", "Shape"): {
        "__init__": "(self, pieces)", "pieces": "(self)", "__len__": "(self)", "__call__": "(self, x)", "before": "(self, x)", "after": "(self, x)",
        "__add__": "(self, other)", "__sub__": "(self, other)", "__or__": "(self, other)", "__and__": "(self, other)", "signs": "(self)",
        "least": "(self)", "falls": "(self)", "__eq__": "(self, other)"},
    ("machines", "Machine"): {
        "__init__": "(self, program, setting, part, x)", "ready": "(self)", "waiting": "(self)", "journal": "(self)", "__len__": "(self)",
        "choose": "(self)", "finish": "(self)", "change": "(self, task, index, step)", "copy": "(self)", "attempt": "(self, visitor)",
        "behind": "(program, setting, part, x, journal)", "__eq__": "(self, other)"},
    ("bench", "Bench"): {
        "__init__": "(self)", "store": "(self, name, program)", "drop": "(self, name)", "kept": "(self, name)", "edit": "(self, name, change)",
        "undo": "(self)", "names": "(self)", "__len__": "(self)", "copy": "(self)", "attempt": "(self, visitor)", "__eq__": "(self, other)"},
    ("console", "Console"): {"__init__": "(self)", "bench": "(self)", "run": "(self, command)"},
}

PROPERTIES = {("programs", "Program"): ("tasks", "text"), ("settings", "Setting"): ("rule",), ("shapes", "Shape"): ("low", "high"),
              ("machines", "Machine"): ("program", "is_over")}

ERRORS = {"InvalidProgram": "place", "InvalidSetting": "value", "InvalidRange": "value", "InvalidShape": "value", "InvalidJournal": "index",
          "InvalidSighting": "index", "InvalidText": "place", "InvalidCommand": "word", "InvalidNumber": "value", "LimitExceeded": "limit",
          "UnknownName": "name", "Stuck": "blocked", "TooLate": "place", "NothingToUndo": "name"}


def module(name):
    return importlib.import_module(f"whatiftimes.{name}")


class Interface(unittest.TestCase):
    def test_functions(self):
        for name, functions in FUNCTIONS.items():
            for function, signature in functions.items():
                self.assertEqual(str(inspect.signature(getattr(module(name), function))), signature, function)

    def test_classes(self):
        for (name, owner), methods in CLASSES.items():
            kind = getattr(module(name), owner)
            for method, signature in methods.items():
                # The method stands in the class itself, not only in a base class.
                self.assertIn(method, vars(kind), (owner, method))
                self.assertEqual(str(inspect.signature(getattr(kind, method))), signature, (owner, method))

    def test_properties(self):
        for (name, owner), properties in PROPERTIES.items():
            for each in properties:
                self.assertIsInstance(vars(getattr(module(name), owner))[each], property)

    def test_errors(self):
        for name, attribute in ERRORS.items():
            error = getattr(module("errors"), name)
            for value in (None, [1], "x"):
                self.assertIs(getattr(error(value), attribute), value)
                self.assertIs(getattr(error(**{attribute: value}), attribute), value)

    def test_events_is_a_generator(self):
        self.assertTrue(inspect.isgenerator(events(Program(((),)), Setting(), "no name", None)))


def arguments(program, setting):
    """A value for each name of a parameter; where a name means several things, by the function, too."""
    journal = run(program, setting, "p", ONE)[0]
    return {
        "program": program, "setting": setting, "part": "p", "x": ONE, "low": ZERO, "high": ONE, "journal": journal, "value": journal, "some": [ONE, ONE],
        "number": 6, "divisor": 4, "line": (2, 1), "time": ONE, "tasks": 2, "costs": {"p": 1}, "budget": 2, "paper": make_paper(program, setting, "p", ZERO, ONE),
        "sighting": ("stuck",), "sightings": [("stuck",)], "shape": flat(ZERO, ONE, ONE), "step": ("take", "m"), "text": "take m",
        ("compared", "one"): ZERO, ("compared", "other"): ONE, ("meeting", "one"): (1, 0), ("meeting", "other"): (0, 1),
        ("order_within", "one"): (1, 0), ("order_within", "other"): (0, 1), ("first_difference", "one"): program, ("first_difference", "other"): program,
        ("gain", "one"): program, ("gain", "other"): program.changed(0, 0, ("get", "z")), ("read_table", "text"): "at 0 1", ("read_program", "text"): "task",
        ("check_paper", "value"): make_paper(program, setting, "p", ZERO, ONE)[:1], ("is_step", "value"): ("take", "m"),
    }


class ByName(unittest.TestCase):
    """Each function, method and class called by the names of its parameters, in another order, does the same."""

    def assert_same(self, function, names, values):
        named = {name: values[name] for name in reversed(names)}
        one, other = function(*[values[name] for name in names]), function(**named)
        if inspect.isgenerator(one):
            one, other = list(one), list(other)
        self.assertEqual(one, other)

    def test_functions(self):
        program, setting = Program(((("work", "p", 2), ("take", "m")), (("work", "q", 3),))), Setting({"q": 2})
        known = arguments(program, setting)
        for name, functions in FUNCTIONS.items():
            for function in functions:
                called = getattr(module(name), function)
                names = list(inspect.signature(called).parameters)
                self.assert_same(called, names, {each: known.get((function, each), known.get(each)) for each in names})

    def test_classes_and_methods(self):
        program, setting = Program(tasks=((("work", "p", 2), ("take", "m")), ()), capacities={"q": 2}), Setting(slownesses={"p": 3}, rule="number")
        shape, journal = Shape(pieces=[("at", ZERO, ONE), ("between", ZERO, None, (1, 1))]), run(program, setting, "p", ONE)[0]
        machine, bench, console = Machine(program=program, setting=setting, part="p", x=ONE), Bench(), Console()
        bench.store(name="one", program=program)
        values = {"task": 0, "index": 1, "step": ("take", "n"), "queue": "r", "capacity": 3, "text": "task", "part": "p", "slowness": 4, "x": ONE, "name": "one",
                  "program": program, "setting": setting, "journal": journal, "visitor": len, "change": lambda kept: kept, "command": "names"}
        for owner in (program, setting, shape, machine, bench, console):
            kind = type(owner)
            for method in CLASSES[(kind.__module__.partition(".")[2], kind.__name__)]:
                called = getattr(owner, method)
                names = list(inspect.signature(called).parameters)
                if not method.startswith("__") and names and (kind, method) != (Bench, "drop"):
                    self.assert_same(called, names, values)
        self.assertEqual(shape(x=ONE), shape(ONE))
        bench.drop(name="one")
        self.assertEqual(bench.names(), [])


def nearly(value):
    """All values that == calls equal to a value or nearly so, with one bool for an integer or one list for a tuple in it."""
    if isinstance(value, int) and value in (0, 1):
        yield bool(value)
    if isinstance(value, tuple):
        yield list(value)
    if isinstance(value, (list, tuple)):
        for index, item in enumerate(value):
            for other in nearly(item):
                yield type(value)([*value[:index], other, *value[index + 1:]])


class Nearly(unittest.TestCase):
    """No checker takes a bool for an integer or a list for a tuple, however deep it stands."""

    PROGRAM = Program(((("work", "p", 1), ("put", "q", 1), ("skip", 0, 1), ("await", 1)), (("get", "q"),), (("get", "q"),)))

    def assert_refused(self, error, attribute, wanted, function, *args):
        with self.assertRaises(error) as caught:
            function(*args)
        self.assertEqual(getattr(caught.exception, attribute), wanted)

    def test_small_values(self):
        for value in nearly((1, 1)):
            self.assertIs(is_fraction(value), False)
            self.assertIs(is_line(value), False)
            self.assert_refused(InvalidNumber, "value", value, total_of, [(0, 1), value])
            self.assert_refused(InvalidNumber, "value", value, run, self.PROGRAM, Setting(), "p", value)
        for step in (("work", "p", 1), ("take", "m"), ("put", "q", 0), ("get", "q"), ("skip", 1, 1), ("await", 0)):
            self.assertIs(is_step(step, 1), True)
            for value in nearly(step):
                self.assertIs(is_step(value, 1), False)
        for sighting in (("done", 0, 1, ONE), ("within", 1, 0, ZERO, ONE), ("ahead", 0, 0, 1, 1), ("never", 1, 1), ("total", ONE), ("stuck",)):
            self.assertIs(is_sighting(self.PROGRAM, sighting), True)
            for value in nearly(sighting):
                self.assertIs(is_sighting(self.PROGRAM, value), False)
                self.assert_refused(InvalidSighting, "index", 1, places, self.PROGRAM, Setting(), "p", ZERO, ONE, [("stuck",), value])

    def test_programs(self):
        for tasks in nearly(self.PROGRAM.tasks):
            self.assertRaises(InvalidProgram, Program, tasks)

    def test_shapes(self):
        for pieces in nearly(profile(self.PROGRAM, Setting(), "p", ZERO, ONE).pieces()):
            with self.assertRaises(InvalidShape) as caught:
                Shape(pieces)
            self.assertIs(caught.exception.value, pieces)

    def test_journals_and_papers(self):
        for x in (ZERO, ONE, (1, 2)):
            journal = run(self.PROGRAM, Setting(), "p", x)[0]
            for value in nearly(journal):
                place = next(index for index, entry in enumerate(value) if repr(entry) != repr(journal[index]))
                self.assertEqual(check_journal(self.PROGRAM, Setting(), "p", x, value), place)
                self.assert_refused(InvalidJournal, "index", place, Machine.behind, self.PROGRAM, Setting(), "p", x, value)
        paper = make_paper(self.PROGRAM, Setting(), "p", ZERO, ONE)
        for value in nearly(paper):
            place = next(index for index, row in enumerate(value) if repr(row) != repr(paper[index]))
            self.assertEqual(check_paper(self.PROGRAM, Setting(), "p", ZERO, ONE, value), place)


def answers(program, setting, x):
    """All functions that return lists, nested ones included, ready to be called."""
    machine = Machine(program, setting, "p", x)
    machine.choose()
    bench = Bench()
    bench.store("one", program)
    shape = profile(program, setting, "p", ZERO, (3, 1))
    journal = run(program, setting, "p", x)[0]
    text = write_journal(journal)
    calls = [
        lambda: run(program, setting, "p", x), lambda: program.parts(), lambda: shape.pieces(), lambda: shape.signs(), lambda: shape.falls(),
        lambda: befores(program, journal), lambda: kept_times(program, setting, "p", x, journal),
        lambda: places(program, setting, "p", ZERO, (3, 1), [("stuck",)]), lambda: slopes(program, setting), lambda: machine.ready(),
        lambda: machine.waiting(), lambda: machine.journal(), lambda: machine.copy().choose(), lambda: read_journal(program, text), lambda: bench.names(),
    ]
    if len(list(module("cuts").stretches(program, setting, "p", ZERO, ONE, False))) <= 300:
        calls += [lambda: regimes(program, setting, "p", ZERO, ONE), lambda: make_paper(program, setting, "p", ZERO, ONE)]
    if run(program, setting, "p", x)[2] is not None:
        calls += [lambda: critical(program, setting, "p", x), lambda: slacks(program, setting, "p", x)]
    return calls


def spoil(value):
    """Change all lists within a value."""
    if isinstance(value, (list, tuple)):
        for item in value:
            spoil(item)
    if isinstance(value, list):
        value.append("spoiled")
        value.reverse()


class Ownership(unittest.TestCase):
    def test_returned_lists_are_changed(self):
        for seed in range(20):
            program = some_program(seed) if seed % 2 else lively_program(seed)
            for number, call in enumerate(answers(program, some_setting(seed), some_slowness(seed))):
                first = call()
                wanted = copy.deepcopy(first)
                spoil(first)
                self.assertEqual(call(), wanted, number)

    def test_handed_in_dicts_are_changed_behind(self):
        capacities, slownesses = {"q": 3}, {"p": 2}
        program, setting = Program(((),), capacities), Setting(slownesses)
        capacities["q"] = 9
        capacities["r"] = 9
        slownesses.clear()
        self.assertEqual((program.capacity("q"), program.capacity("r"), setting.slowness("p")), (3, 1, 2))

    def test_handed_in_lists_are_changed_behind(self):
        pieces = [("at", ZERO, ONE), ("between", ZERO, None, (0, 1))]
        shape = Shape(pieces)
        pieces.clear()
        self.assertEqual(shape, flat(ZERO, None, ONE))
        program = lively_program(3)
        journal = run(program, Setting(), "p", ONE)[0]
        machine = Machine.behind(program, Setting(), "p", ONE, journal)
        paper = make_paper(program, Setting(), "p", ZERO, (1, 4))
        read = read_paper(paper)
        spoil(paper)
        spoil(journal)
        self.assertEqual(read, profile(program, Setting(), "p", ZERO, (1, 4)))
        self.assertEqual(machine.journal(), run(program, Setting(), "p", ONE)[0])

    def test_arguments_stay(self):
        program = lively_program(5)
        journal = run(program, Setting(), "p", ONE)[0]
        paper = make_paper(program, Setting(), "p", ZERO, (1, 4))
        sightings, costs = [("total", ONE), ("stuck",)], {"p": 1, "a": 2}
        before = copy.deepcopy((journal, paper, sightings, costs))
        befores(program, journal)
        kept_times(program, Setting(), "p", ONE, journal)
        check_journal(program, Setting(), "p", ONE, journal)
        check_paper(program, Setting(), "p", ZERO, (1, 4), paper)
        read_paper(paper)
        places(program, Setting(), "p", ZERO, ONE, sightings)
        best_setting(program, Setting(), costs, 3)
        write_journal(journal)
        Machine.behind(program, Setting(), "p", ONE, journal)
        self.assertEqual((journal, paper, sightings, costs), before)

    def test_order_of_keys_means_nothing(self):
        for seed in range(10):
            program = lively_program(seed)
            one, other = Setting({"p": 2, "r": 3, "s": 0}), Setting({"s": 0, "r": 3, "p": 2})
            self.assertEqual(one, other)
            self.assertEqual(run(program, one, "p", ONE), run(program, other, "p", ONE))
            self.assertEqual(slopes(program, one), slopes(program, other))
            first, second = (Program(program.tasks, dict(items)) for items in ([("q", 3), ("m", 2)], [("m", 2), ("q", 3)]))
            self.assertEqual((first, first.text), (second, second.text))


def some_edits(source, program):
    """A program edited a few times, and the functions that take the edits back, the last one first."""
    backs = []
    for count in range(source.randint(1, 5)):
        task = source.randrange(len(program))
        steps = len(program.tasks[task])
        index = source.randint(0, steps)
        if index < steps and source.random() < 0.4:
            old = program.step(task, index)
            program = program.changed(task, index, ("work", "p", source.randint(0, 5)))
            backs.append(lambda other, task=task, index=index, old=old: other.changed(task, index, old))
        elif index < steps and source.random() < 0.4:
            old = program.step(task, index)
            program = program.without_step(task, index)
            backs.append(lambda other, task=task, index=index, old=old: other.with_step(task, index, old))
        elif steps < 20:
            program = program.with_step(task, index, ("work", "r", source.randint(0, 5)))
            backs.append(lambda other, task=task, index=index: other.without_step(task, index))
        else:
            old = program.capacity("q")
            program = program.with_capacity("q", source.randint(1, 9))
            backs.append(lambda other, old=old: other.with_capacity("q", old))
    return program, backs[::-1]


class Together(unittest.TestCase):
    def test_edited_written_and_read(self):
        for seed in range(80):
            program = some_program(seed) if seed % 2 else lively_program(seed)
            edited, backs = some_edits(random.Random(seed), program)
            self.assertEqual(read_program(write_program(edited)), edited)
            self.assertEqual(write_program(read_program(edited.text)), edited.text)
            for task in edited.tasks:
                self.assertEqual(tuple(read_step(write_step(step), len(edited)) for step in task), task)
            for back in backs:
                edited = back(edited)
            self.assertEqual((edited, edited.text), (program, program.text))

    def test_run_stopped_written_and_gone_on(self):
        for seed in range(60):
            source = random.Random(seed)
            program = some_program(seed) if seed % 2 else lively_program(seed)
            program = read_program(write_program(some_edits(source, program)[0]))
            setting, x = some_setting(seed), some_slowness(seed)
            journal, waiting, total = run(program, setting, "p", x)
            self.assertEqual((journal, waiting, total), wanted_run(program, setting, "p", x))
            self.assertIs(check_journal(program, setting, "p", x, journal), None)
            machine = Machine(program, setting, "p", x)
            for count in range(source.randint(0, 30)):
                if not machine.is_over:
                    machine.choose()
            text = write_journal(machine.journal())
            self.assertEqual(read_journal(program, text), (machine.journal(), "end"))
            for other in (recovered(program, setting, "p", x, text), Machine.behind(program, setting, "p", x, machine.journal()), machine.copy()):
                self.assertEqual((other.finish(), other.journal(), other.waiting()), (total, journal, waiting))
            self.assertEqual(machine.attempt(lambda tried: tried.finish()), total)

    def test_profiles_papers_tables_and_gains(self):
        for seed in range(40):
            source = random.Random(seed)
            program, setting = lively_program(seed), some_setting(seed)
            edited = some_edits(source, program)[0]
            shape = profile(program, setting, "p", ZERO, (2, 1))
            self.assertEqual(read_table(table(shape)), shape)
            if len(list(module("cuts").stretches(program, setting, "p", ZERO, (2, 1), False))) <= 300:
                paper = make_paper(program, setting, "p", ZERO, (2, 1))
                self.assertIs(check_paper(program, setting, "p", ZERO, (2, 1), paper), None)
                self.assertEqual(read_paper(paper), shape)
            difference = gain(program, edited, setting, "p", ZERO, (2, 1))
            self.assertEqual(read_table(table(difference)), difference)
            for count in range(6):
                x = pair(Fraction(source.randint(0, 12), 6))
                one, other = (wanted_run(each, setting, "p", x)[2] for each in (program, edited))
                self.assertEqual(shape(x), one)
                wanted = None if one is None or other is None else pair(Fraction(*one) - Fraction(*other))
                self.assertEqual(difference(x), wanted)
                same = first_difference(program, edited, setting, "p", x) is None
                self.assertIs(same, run(program, setting, "p", x)[0] == run(edited, setting, "p", x)[0])
                if one is not None:
                    self.assertIs(is_shown(program, setting, "p", x, ("total", one)), True)
                    found = places(program, setting, "p", x, x, [("total", one)])
                    self.assertEqual(found, [("at", x)])
                    self.assertEqual(kept_total(program, setting, "p", run(program, setting, "p", x)[0])(x), one)
                    self.assertTrue(any(row.endswith(f" {Fraction(*one)}") for row in bars(program, setting, "p", x).split("\n")))

    def test_console_and_bench(self):
        console, bench = Console(), Bench()
        for seed in range(30):
            source = random.Random(seed)
            name = source.choice("abc")
            program = some_program(seed)
            console.run(f"store {name} " + program.text.replace("\n", "; "))
            bench.store(name, program)
            task = source.randrange(len(program))
            if program.tasks[task]:
                index = source.randrange(len(program.tasks[task]))
                console.run(f"set {name} {task} {index} work p {seed}")
                bench.edit(name, lambda kept: kept.changed(task, index, ("work", "p", seed)))
            if source.random() < 0.3:
                console.run("undo")
                bench.undo()
            self.assertEqual((console.bench(), len(console.bench())), (bench, len(bench)))
        while len(bench):
            console.run("undo")
            bench.undo()
            self.assertEqual(console.bench(), bench)

    def test_machines_changed_against_edited_programs(self):
        for seed in range(40):
            source = random.Random(seed)
            program, setting, x = lively_program(seed), some_setting(seed), some_slowness(seed)
            task = source.randrange(len(program))
            if not program.tasks[task]:
                continue
            index = len(program.tasks[task]) - 1
            machine = Machine(program, setting, "p", x)
            machine.choose()
            if index > 0:
                machine.change(task, index, ("work", "p", 4))
                edited = program.changed(task, index, ("work", "p", 4))
                self.assertEqual(machine.program, edited)
                self.assertEqual((machine.finish(), machine.journal()), run(edited, setting, "p", x)[::-2])


if __name__ == "__main__":
    unittest.main()
