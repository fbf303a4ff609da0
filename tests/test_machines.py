"""Tests of whatiftimes.machines."""

import random
import unittest

from tests.reference import Reference, lively_program, some_program, some_setting, some_slowness, wanted_run
from tests.values import NOT_NAMES, NOT_SLOWNESSES, OTHER_VALUES, Plain
from whatiftimes.errors import InvalidJournal, InvalidNumber, InvalidProgram, Stuck, TooLate, UnknownName
from whatiftimes.machines import Machine
from whatiftimes.programs import Program
from whatiftimes.runs import events, run
from whatiftimes.settings import Setting

A = (("work", "p", 2), ("take", "m"), ("work", "q", 1), ("give", "m"))
B = (("work", "r", 3), ("take", "m"), ("work", "q", 1), ("give", "m"), ("work", "s", 10))
ONE = (1, 1)
SETTINGS = [Setting(), Setting(rule="number"), Setting({"p": 3, "r": 0, "s": 2}, rule="number"), Setting({"r": 2})]


def cases(many):
    """Programs, settings of both rules and slownesses, always the same ones."""
    for seed in range(many):
        program = some_program(seed) if seed % 2 == 0 else lively_program(seed)
        yield program, SETTINGS[seed % 4] if seed % 3 else some_setting(seed), some_slowness(seed)


def state_of(machine):
    """All that a machine tells."""
    return (machine.program, machine.journal(), machine.ready(), machine.waiting(), len(machine), machine.is_over)


def stopped(program, setting, part, x, choices):
    """A machine and a reference behind so many choices, or at the end."""
    machine, reference = Machine(program, setting, part, x), Reference(program, setting, part, x)
    for count in range(choices):
        if machine.is_over:
            break
        machine.choose()
        reference.choose()
    return machine, reference


class MachineTest(unittest.TestCase):
    def assert_raises(self, error, attribute, wanted, function, *args, **more):
        with self.assertRaises(error) as caught:
            function(*args, **more)
        found = getattr(caught.exception, attribute)
        self.assertEqual(found, wanted)
        self.assertIs(type(found), type(wanted))

    def assert_same_state(self, machine, reference):
        self.assertEqual(machine.journal(), reference.journal)
        self.assertEqual(len(machine), len(reference.journal))
        self.assertEqual(machine.ready(), reference.ready())
        self.assertEqual(machine.waiting(), reference.waiting())
        self.assertIs(machine.is_over, "ready" not in reference.status)


class Choices(MachineTest):
    def test_example(self):
        machine = Machine(Program((A, B)), Setting(), "p", ONE)
        found = (machine.choose(), machine.ready(), machine.finish(), len(machine), machine.is_over)
        self.assertEqual(found, ([(0, 0, (0, 1), (2, 1))], [((0, 1), 1), ((2, 1), 0)], (14, 1), 11, True))

    def test_at_the_beginning(self):
        machine = Machine(Program((A, B, ())), Setting(), "p", ONE)
        self.assertEqual((machine.journal(), machine.waiting(), len(machine), machine.is_over), ([], [], 0, False))
        self.assertEqual(machine.ready(), [((0, 1), 0), ((0, 1), 1), ((0, 1), 2)])
        self.assertEqual(machine.program, Program((A, B, ())))
        self.assertIs(type(machine.is_over), bool)

    def test_choice_by_choice_as_the_rules_tell(self):
        for program, setting, x in cases(250):
            machine, reference = Machine(program, setting, "p", x), Reference(program, setting, "p", x)
            self.assert_same_state(machine, reference)
            while not machine.is_over:
                before = len(reference.journal)
                reference.choose()
                self.assertEqual(machine.choose(), reference.journal[before:])
                self.assert_same_state(machine, reference)
            self.assertEqual(machine.journal(), run(program, setting, "p", x)[0])
            self.assertEqual(machine.journal(), list(events(program, setting, "p", x)))

    def test_finish_from_each_place(self):
        for program, setting, x in cases(60):
            journal, waiting, total = run(program, setting, "p", x)
            for choices in range(0, 60, 3):
                machine = stopped(program, setting, "p", x, choices)[0]
                self.assertEqual(machine.finish(), total)
                self.assertEqual((machine.journal(), machine.waiting(), machine.ready()), (journal, waiting, []))
                self.assertIs(machine.is_over, True)
                self.assertEqual(machine.finish(), total)

    def test_choices_without_entries(self):
        program = Program(((("get", "q"),), (("work", "w", 1), ("put", "q", 3))))
        machine = Machine(program, Setting(), "p", ONE)
        self.assertEqual((machine.choose(), machine.waiting(), len(machine)), ([], [(0, 0)], 0))
        self.assertEqual(machine.choose(), [(1, 0, (0, 1), ONE)])
        # What follows at once belongs to the same choice.
        self.assertEqual(machine.choose(), [(1, 1, ONE, ONE), (0, 0, (0, 1), ONE)])
        self.assertEqual((machine.waiting(), machine.ready()), ([], [(ONE, 0), (ONE, 1)]))

    def test_ready_is_sorted_by_time_first(self):
        tasks = ((("work", "w", 10),), (("work", "w", 9),), (("work", "p", 1),), (("work", "w", 9),))
        machine = Machine(Program(tasks), Setting(), "p", (19, 2))
        for count in range(4):
            machine.choose()
        self.assertEqual(machine.ready(), [((9, 1), 1), ((9, 1), 3), ((19, 2), 2), ((10, 1), 0)])

    def test_stuck_behind_the_last_choice(self):
        program = Program(((("get", "q"),), (("take", "m"), ("work", "w", 2), ("take", "m")), (("work", "w", 3),)))
        machine = Machine(program, Setting(), "p", ONE)
        self.assertIs(machine.finish(), None)
        self.assertEqual(machine.waiting(), [(0, 0), (1, 2)])
        for count in range(2):
            self.assert_raises(Stuck, "blocked", [(0, 0), (1, 2)], machine.choose)
        self.assertIs(machine.finish(), None)

    def test_stuck_of_a_run_that_has_ended(self):
        machine = Machine(Program((A, B)), Setting(), "p", ONE)
        machine.finish()
        before = state_of(machine)
        self.assert_raises(Stuck, "blocked", [], machine.choose)
        self.assertEqual(state_of(machine), before)

    def test_program_without_steps(self):
        machine = Machine(Program(((),)), Setting(), "p", ONE)
        self.assertEqual((machine.is_over, machine.choose(), machine.is_over), (False, [(0, 0, (0, 1), (0, 1))], True))
        self.assertEqual(machine.finish(), (0, 1))

    def test_lists_belong_to_the_caller(self):
        machine = stopped(Program((A, B)), Setting(), "p", ONE, 7)[0]
        before = state_of(machine)
        for tell in (machine.journal, machine.ready, machine.waiting):
            tell().append("more")
            tell().clear()
        machine.copy().choose().clear()
        self.assertEqual(state_of(machine), before)
        machine.choose().append("more")
        self.assertNotIn("more", machine.journal())
        machine.finish()
        with self.assertRaises(Stuck) as caught:
            machine.choose()
        caught.exception.blocked.append("more")
        self.assert_raises(Stuck, "blocked", [], machine.choose)

    def test_by_name(self):
        machine = Machine(x=ONE, part="p", setting=Setting(), program=Program((A, B)))
        machine.change(step=("work", "p", 7), index=0, task=0)
        self.assertEqual(machine.program.step(0, 0), ("work", "p", 7))
        self.assertEqual(machine.attempt(visitor=len), 0)
        other = Machine.behind(journal=[], x=ONE, part="p", setting=Setting(), program=machine.program)
        self.assertEqual(other, machine)

    def test_errors(self):
        program = Program((A, B))
        for part in NOT_NAMES:
            with self.assertRaises(UnknownName) as caught:
                Machine(program, Setting(), part, "no slowness")
            self.assertIs(caught.exception.name, part)
        for x in NOT_SLOWNESSES:
            with self.assertRaises(InvalidNumber) as caught:
                Machine(program, Setting(), "p", x)
            self.assertIs(caught.exception.value, x)

    def test_properties_cannot_be_set(self):
        machine = Machine(Program((A, B)), Setting(), "p", ONE)
        for name in ("program", "is_over"):
            with self.assertRaises(AttributeError):
                setattr(machine, name, None)


class Changes(MachineTest):
    def test_goes_on_as_a_run_of_the_changed_program(self):
        seen = {"changed": 0, "late": 0}
        for number, (program, setting, x) in enumerate(cases(200)):
            source = random.Random(number)
            machine, reference = stopped(program, setting, "p", x, source.randint(0, 40))
            for count in range(6):
                task = source.randrange(len(program))
                steps = len(program.tasks[task])
                if steps == 0:
                    continue
                index = source.randrange(steps)
                step = source.choice((("work", "p", 5), ("work", "new", 4), ("take", "m"), ("give", "m"), ("get", "new"),
                                      ("put", "new", 2), ("put", "q", 1), ("skip", 0, 2), ("await", 0), ("get", "q")))
                late = (reference.status[task] == "ended" or index < reference.at[task]
                        or index == reference.at[task] and reference.status[task] == "waits")
                seen["late" if late else "changed"] += 1
                before = state_of(machine)
                if late:
                    self.assert_raises(TooLate, "place", (task, index), machine.change, task, index, step)
                    self.assertEqual(state_of(machine), before)
                else:
                    self.assertIs(machine.change(task, index, step), None)
                    reference.program = reference.program.changed(task, index, step)
                self.assertEqual(machine.program, reference.program)
                self.assert_same_state(machine, reference)
                if not machine.is_over and source.random() < 0.5:
                    machine.choose()
                    reference.choose()
            self.assertEqual(machine.finish(), reference.finish().result()[2])
            self.assert_same_state(machine, reference)
            # As far as nothing was changed behind its being done, it is the run of the changed program.
            self.assertEqual((machine.journal(), machine.waiting()), wanted_run(machine.program, setting, "p", x)[:2])
        self.assertGreater(min(seen.values()), 200)

    def test_next_step_of_a_ready_task(self):
        machine = stopped(Program((A, B)), Setting(), "p", ONE, 1)[0]
        machine.change(0, 1, ("work", "p", 1))
        machine.change(1, 0, ("work", "new", 5))
        self.assertEqual(machine.choose(), [(1, 0, (0, 1), (5, 1))])
        self.assertEqual(machine.choose(), [(0, 1, (2, 1), (3, 1))])

    def test_steps_that_are_done(self):
        machine = stopped(Program((A, B)), Setting(), "p", ONE, 3)[0]
        self.assert_raises(TooLate, "place", (0, 0), machine.change, 0, 0, ("work", "p", 1))
        self.assert_raises(TooLate, "place", (0, 1), machine.change, 0, 1, ("work", "p", 1))
        self.assert_raises(TooLate, "place", (1, 0), machine.change, 1, 0, ("work", "p", 1))
        machine.change(1, 1, ("work", "p", 1))

    def test_step_that_is_waited_for(self):
        program = Program(((("get", "q"), ("get", "q"), ("work", "w", 1)), (("work", "w", 1), ("put", "q", 3), ("put", "q", 3))))
        machine = stopped(program, Setting(), "p", ONE, 1)[0]
        self.assertEqual(machine.waiting(), [(0, 0)])
        self.assert_raises(TooLate, "place", (0, 0), machine.change, 0, 0, ("work", "w", 1))
        machine.change(0, 1, ("work", "w", 7))
        self.assertEqual(machine.finish(), (9, 1))

    def test_steps_that_are_left_out(self):
        steps = (("skip", 0, 2), ("work", "w", 5), ("work", "w", 6), ("work", "w", 7), ("skip", 0, 9), ("work", "w", 8))
        machine = stopped(Program((steps,)), Setting(), "p", ONE, 1)[0]
        for index in (0, 1, 2):
            self.assert_raises(TooLate, "place", (0, index), machine.change, 0, index, ("work", "w", 1))
        machine.change(0, 3, ("work", "w", 1))
        machine.choose()
        machine.choose()
        self.assertEqual((machine.ready(), len(machine)), ([(ONE, 0)], 3))
        for index in (3, 4, 5):
            self.assert_raises(TooLate, "place", (0, index), machine.change, 0, index, ("work", "w", 1))
        self.assertEqual(machine.finish(), ONE)

    def test_task_that_has_ended(self):
        machine = stopped(Program(((("give", "m"),), (("work", "w", 1),))), Setting(), "p", ONE, 3)[0]
        self.assertEqual(machine.ready(), [(ONE, 1)])
        self.assert_raises(TooLate, "place", (0, 0), machine.change, 0, 0, ("give", "m"))
        machine.finish()
        self.assert_raises(TooLate, "place", (1, 0), machine.change, 1, 0, ("give", "m"))

    def test_queue_with_a_capacity_that_was_not_used(self):
        program = Program(((("work", "w", 1), ("work", "w", 1), ("work", "w", 1)),), {"new": 2})
        machine = stopped(program, Setting(), "p", ONE, 1)[0]
        machine.change(0, 1, ("put", "new", 1))
        machine.change(0, 2, ("put", "new", 1))
        self.assertEqual(machine.finish(), ONE)

    def test_slowness_of_a_part_that_was_not_there(self):
        program = Program(((("give", "m"), ("give", "m"), ("give", "m")),))
        machine = Machine(program, Setting({"new": 4}), "p", (1, 3))
        machine.change(0, 0, ("work", "new", 2))
        machine.change(0, 1, ("work", "p", 2))
        self.assertEqual(machine.finish(), (26, 3))

    def test_the_program_itself_stays(self):
        program = Program((A, B))
        machine = Machine(program, Setting(), "p", ONE)
        machine.change(0, 0, ("work", "p", 9))
        self.assertEqual(program, Program((A, B)))
        self.assertEqual(machine.program, program.changed(0, 0, ("work", "p", 9)))

    def test_errors_in_order(self):
        machine = stopped(Program((A, B)), Setting(), "p", ONE, 4)[0]
        before = state_of(machine)
        for task in OTHER_VALUES + [-1, 2, 7]:
            with self.assertRaises(InvalidNumber) as caught:
                machine.change(task, "no index", "no step")
            self.assertIs(caught.exception.value, task)
        for index in OTHER_VALUES + [-1, 4, 20]:
            with self.assertRaises(InvalidNumber) as caught:
                machine.change(0, index, "no step")
            self.assertIs(caught.exception.value, index)
        for step in OTHER_VALUES + [("await", 2), ("work", "p"), ("work", "p", True), ["take", "m"], ("put", "q", 10)]:
            self.assert_raises(InvalidProgram, "place", (0, 0), machine.change, 0, 0, step)
            self.assert_raises(InvalidProgram, "place", (1, 4), machine.change, 1, 4, step)
        self.assert_raises(TooLate, "place", (0, 0), machine.change, 0, 0, A[0])
        self.assertEqual(state_of(machine), before)


class Copies(MachineTest):
    def test_copies_go_on_by_themselves(self):
        for number, (program, setting, x) in enumerate(cases(100)):
            machine, reference = stopped(program, setting, "p", x, number % 45)
            before = state_of(machine)
            twin = machine.copy()
            self.assertIs(type(twin), Machine)
            self.assertEqual(state_of(twin), before)
            self.assertEqual(twin, machine)
            self.assertEqual(twin.finish(), run(program, setting, "p", x)[2])
            self.assertEqual(state_of(machine), before)
            other = machine.copy()
            self.assertEqual(machine.finish(), run(program, setting, "p", x)[2])
            self.assertEqual(state_of(other), before)
            while not other.is_over:
                reference.choose()
                other.choose()
                self.assert_same_state(other, reference)
            self.assertEqual(other, machine)

    def test_changes_of_copies(self):
        machine = stopped(Program((A, B)), Setting(), "p", ONE, 3)[0]
        twin = machine.copy()
        twin.change(1, 4, ("work", "s", 1))
        self.assertEqual((machine.program, machine.finish()), (Program((A, B)), (14, 1)))
        self.assertEqual((twin.program.step(1, 4), twin.finish()), (("work", "s", 1), (5, 1)))
        self.assertEqual(twin.copy().program, twin.program)


class Attempts(MachineTest):
    def test_machine_is_as_before(self):
        for number, (program, setting, x) in enumerate(cases(100)):
            machine, reference = stopped(program, setting, "p", x, number % 45)
            before = state_of(machine)
            self.assertEqual(machine.attempt(lambda tried: tried.finish()), run(program, setting, "p", x)[2])
            self.assertEqual(state_of(machine), before)
            while not machine.is_over:
                machine.attempt(lambda tried: tried.choose())
                reference.choose()
                machine.choose()
                self.assert_same_state(machine, reference)

    def test_the_very_machine_and_the_very_result(self):
        machine = Machine(Program((A, B)), Setting(), "p", ONE)
        results = [[], {}, Plain(), None, (1, [2])]
        for result in results:
            seen = []
            self.assertIs(machine.attempt(lambda tried: seen.append(tried) or result), result)
            self.assertIs(seen[0], machine)
        self.assertIs(machine.attempt(lambda tried: tried), machine)
        entries = machine.attempt(lambda tried: tried.choose())
        entries.append("more")
        self.assertEqual(machine.attempt(lambda tried: tried.choose()), [(0, 0, (0, 1), (2, 1))])

    def test_visitor_that_raises(self):
        machine = stopped(Program((A, B)), Setting(), "p", ONE, 5)[0]
        before = state_of(machine)
        error = RuntimeError("no")

        def visitor(tried):
            tried.change(1, 4, ("work", "s", 1))
            tried.finish()
            raise error

        with self.assertRaises(RuntimeError) as caught:
            machine.attempt(visitor)
        self.assertIs(caught.exception, error)
        self.assertEqual(state_of(machine), before)
        self.assert_raises(Stuck, "blocked", [], machine.attempt, lambda tried: (tried.finish(), tried.choose()))
        self.assert_raises(TooLate, "place", (0, 0), machine.attempt, lambda tried: tried.change(0, 0, ("give", "m")))
        self.assertEqual(state_of(machine), before)

    def test_one_within_another(self):
        machine = stopped(Program((A, B)), Setting(), "p", ONE, 2)[0]
        before = state_of(machine)

        def inner(tried):
            tried.change(1, 4, ("work", "s", 100))
            return tried.finish()

        def outer(tried):
            tried.choose()
            tried.change(1, 4, ("work", "s", 1))
            middle = state_of(tried)
            results = [tried.attempt(inner)]
            self.assertEqual(state_of(tried), middle)
            with self.assertRaises(TooLate):
                tried.attempt(lambda again: (again.finish(), again.change(0, 0, ("give", "m"))))
            self.assertEqual(state_of(tried), middle)
            return results + [tried.finish()]

        self.assertEqual(machine.attempt(outer), [(104, 1), (5, 1)])
        self.assertEqual(state_of(machine), before)
        self.assertEqual(machine.finish(), (14, 1))

    def test_copy_made_by_a_visitor_stays(self):
        machine = Machine(Program((A, B)), Setting(), "p", ONE)

        def visitor(tried):
            tried.choose()
            return tried.copy()

        twin = machine.attempt(visitor)
        self.assertEqual((len(machine), len(twin)), (0, 1))
        twin.finish()
        self.assertEqual((len(machine), len(twin)), (0, 11))


class Behind(MachineTest):
    def test_every_beginning(self):
        for program, setting, x in cases(60):
            reference = Reference(program, setting, "p", x)
            # For each number of entries behind a choice: how many choices it takes at least.
            least = {0: 0}
            choices = 0
            while "ready" in reference.status:
                reference.choose()
                choices += 1
                least.setdefault(len(reference.journal), choices)
            journal, waiting, total = run(program, setting, "p", x)
            for size in range(len(journal) + 1):
                beginning = journal[:size]
                if size not in least:
                    # Entries that follow at once are missing.
                    self.assert_raises(InvalidJournal, "index", size, Machine.behind, program, setting, "p", x, beginning)
                    continue
                machine = Machine.behind(program, setting, "p", x, beginning)
                self.assertIs(type(machine), Machine)
                self.assert_same_state(machine, stopped(program, setting, "p", x, least[size])[1])
                self.assertEqual(beginning, journal[:size])
                self.assertEqual((machine.finish(), machine.journal(), machine.waiting()), (total, journal, waiting))

    def test_entries_that_follow_at_once(self):
        program = Program(((("get", "q"),), (("work", "w", 1), ("put", "q", 3))))
        journal = run(program, Setting(), "p", ONE)[0]
        self.assertEqual([entry[:2] for entry in journal], [(1, 0), (1, 1), (0, 0), (0, 1), (1, 2)])
        self.assert_raises(InvalidJournal, "index", 2, Machine.behind, program, Setting(), "p", ONE, journal[:2])
        machine = Machine.behind(program, Setting(), "p", ONE, journal[:3])
        self.assertEqual((machine.journal(), machine.waiting()), (journal[:3], []))

    def test_as_few_choices_as_possible(self):
        program = Program(((("get", "q"),), (("work", "w", 1), ("put", "q", 3))))
        self.assertEqual(Machine.behind(program, Setting(), "p", ONE, []).waiting(), [])
        program = Program(((("work", "w", 1),), (("get", "q"),)))
        machine = Machine.behind(program, Setting(), "p", ONE, [(0, 0, (0, 1), ONE)])
        self.assertEqual((machine.waiting(), machine.ready()), ([], [((0, 1), 1), (ONE, 0)]))

    def test_whole_journal_of_a_stuck_run(self):
        program = Program(((("give", "m"), ("get", "q")), (("give", "m"),)))
        journal, waiting, total = run(program, Setting(), "p", ONE)
        machine = Machine.behind(program, Setting(), "p", ONE, journal)
        self.assertEqual((machine.journal(), machine.finish(), machine.waiting()), (journal, None, waiting))

    def test_changed_entries(self):
        for program, setting, x in cases(25):
            journal = run(program, setting, "p", x)[0]
            for index, entry in enumerate(journal):
                for other in wrong_entries(entry):
                    changed = journal[:index] + [other] + journal[index + 1:]
                    self.assert_raises(InvalidJournal, "index", index, Machine.behind, program, setting, "p", x, changed)
                # An entry that is there already is not the next one.
                changed = journal[:index + 1] + journal[index:]
                self.assert_raises(InvalidJournal, "index", index + 1, Machine.behind, program, setting, "p", x, changed)

    def test_wrong_entry_behind_one_that_is_followed_at_once(self):
        program = Program(((("get", "q"),), (("work", "w", 1), ("put", "q", 3))))
        journal = run(program, Setting(), "p", ONE)[0]
        for wrong in (None, journal[0], (0, 0, (0, 1), (2, 1))):
            changed = journal[:2] + [wrong]
            self.assert_raises(InvalidJournal, "index", 2, Machine.behind, program, Setting(), "p", ONE, changed)

    def test_more_than_the_run(self):
        for program in (Program((A, B)), Program(((("give", "m"), ("get", "q")),))):
            journal = run(program, Setting(), "p", ONE)[0]
            for more in (journal[-1], None, (0, 4, ONE, ONE)):
                changed = journal + [more]
                self.assert_raises(
                    InvalidJournal, "index", len(journal), Machine.behind, program, Setting(), "p", ONE, changed)

    def test_no_list(self):
        program = Program((A, B))
        journal = run(program, Setting(), "p", ONE)[0]
        for value in OTHER_VALUES + [tuple(journal), (), "", None]:
            if not isinstance(value, list):
                self.assert_raises(InvalidJournal, "index", None, Machine.behind, program, Setting(), "p", ONE, value)

    def test_errors_of_run_first(self):
        program = Program((A, B))
        self.assert_raises(UnknownName, "name", "P", Machine.behind, program, Setting(), "P", "no", None)
        self.assert_raises(InvalidNumber, "value", (2, 2), Machine.behind, program, Setting(), "p", (2, 2), None)
        self.assert_raises(InvalidJournal, "index", None, Machine.behind, program, Setting(), "p", ONE, None)

    def test_journal_handed_in_is_changed_behind(self):
        journal = run(Program((A, B)), Setting(), "p", ONE)[0]
        handed = journal[:4]
        machine = Machine.behind(Program((A, B)), Setting(), "p", ONE, handed)
        handed.clear()
        self.assertEqual(machine.journal(), journal[:4])


def wrong_entries(entry):
    """An entry with one item changed, left out, put in, as a list, with a bool."""
    task, step, asked, done = entry
    yield from [
        None, list(entry), entry[:3], entry + (0,), (), 7, (task + 1, step, asked, done), (task, step + 1, asked, done),
        (task, step, (asked[0] + 1, asked[1]), done), (task, step, asked, (done[0] + done[1], done[1])),
        (task, step, list(asked), done), (task, step, asked, list(done)), (task, step, asked, None), (str(task), step, asked, done),
        (task, step, asked, (done[0] * 2, done[1] * 2)),
    ]
    if task in (0, 1):
        yield (bool(task), step, asked, done)
    if step in (0, 1):
        yield (task, bool(step), asked, done)
    if done[1] == 1:
        yield (task, step, asked, (done[0], True))
        yield (task, step, asked, done[0])


class Equality(MachineTest):
    def test_machines_that_differ_in_one_thing(self):
        program, setting = Program((A, B)), Setting({"q": 1})
        machine = Machine(program, setting, "p", ONE)
        self.assertEqual(machine, Machine(Program((A, B), {"z": 1}), Setting(), "p", ONE))
        others = [
            Machine(program.changed(1, 4, ("work", "s", 11)), setting, "p", ONE),
            Machine(program.with_capacity("z", 2), setting, "p", ONE),
            Machine(program, Setting({"z": 2}), "p", ONE), Machine(program, Setting(rule="number"), "p", ONE),
            Machine(program, setting, "q", ONE), Machine(program, setting, "p", (2, 1)), Machine(program, setting, "p", (1, 2)),
        ]
        for other in others:
            self.assertFalse(machine == other)
            self.assertTrue(machine != other)
            self.assertEqual(other, other.copy())

    def test_how_far_they_are(self):
        for program, setting, x in cases(40):
            machine = Machine(program, setting, "p", x)
            seen = []
            while True:
                for other in seen:
                    self.assertNotEqual(machine, other)
                seen.append(machine.copy())
                self.assertEqual(machine, seen[-1])
                if machine.is_over:
                    break
                machine.choose()

    def test_waiting_tasks_only(self):
        # The choice makes no entry: only the ready and waiting tasks are others.
        program = Program(((("get", "q"),),))
        machine, other = Machine(program, Setting(), "p", ONE), Machine(program, Setting(), "p", ONE)
        other.choose()
        self.assertEqual(machine.journal(), other.journal())
        self.assertNotEqual(machine, other)
        machine.choose()
        self.assertEqual(machine, other)

    def test_changes_there_and_back(self):
        machine, other = (Machine(Program((A, B)), Setting(), "p", ONE) for count in range(2))
        machine.change(0, 1, ("take", "n"))
        self.assertNotEqual(machine, other)
        machine.change(0, 1, ("take", "m"))
        self.assertEqual(machine, other)

    def test_other_kinds(self):
        machine = Machine(Program((A, B)), Setting(), "p", ONE)
        for value in OTHER_VALUES + [machine.program, [], machine.journal(), Setting()]:
            self.assertFalse(machine == value)
            self.assertTrue(machine != value)


if __name__ == "__main__":
    unittest.main()
