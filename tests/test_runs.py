"""Tests of whatiftimes.runs."""

import copy
import inspect
import unittest

from tests.reference import some_program, some_setting, some_slowness, wanted_run
from tests.values import NOT_NAMES, NOT_SLOWNESSES, OTHER_VALUES, SLOWNESSES
from whatiftimes.errors import InvalidNumber, UnknownName
from whatiftimes.programs import Program
from whatiftimes.runs import check_journal, events, run
from whatiftimes.settings import Setting

A = (("work", "p", 2), ("take", "m"), ("work", "q", 1), ("give", "m"))
B = (("work", "r", 3), ("take", "m"), ("work", "q", 1), ("give", "m"), ("work", "s", 10))
ONE = (1, 1)


def work(amount, part="w"):
    return ("work", part, amount)


def at(time):
    return (time, 1)


def brief(journal):
    """A journal of whole times as tuples of four integers."""
    return [(task, step, asked[0], done[0]) for task, step, asked, done in journal if (asked[1], done[1]) == (1, 1)]


class RunTest(unittest.TestCase):
    def assert_run(self, tasks, journal, waiting, total, *, capacities=None, slownesses=None, rule="turn", x=ONE):
        program = Program(tasks, capacities)
        setting = Setting(slownesses, rule=rule)
        found = run(program, setting, "p", x)
        self.assertIs(type(found), tuple)
        self.assertEqual([type(each) for each in found[:2]], [list, list])
        self.assertEqual(brief(found[0]), journal)
        self.assertEqual(found[1], waiting)
        self.assertEqual(found[2], None if total is None else at(total))
        self.assertEqual(found, wanted_run(program, setting, "p", x))


class Examples(RunTest):
    def test_of_the_document(self):
        program = Program((A, B))
        found = (run(program, Setting(), "p", (5, 4))[2], run(program, Setting(), "p", (2, 1))[2],
                 run(Program(((("get", "q"),),)), Setting(), "p", (1, 1)))
        self.assertEqual(found, ((29, 2), (14, 1), ([], [(0, 0)], None)))

    def test_whole_journal(self):
        self.assert_run((A, B), [
            (0, 0, 0, 2), (1, 0, 0, 3), (0, 1, 2, 2), (0, 2, 2, 3), (0, 3, 3, 3), (0, 4, 3, 3), (1, 1, 3, 3), (1, 2, 3, 4),
            (1, 3, 4, 4), (1, 4, 4, 14), (1, 5, 14, 14)], [], 14)

    def test_empty_tasks(self):
        self.assert_run(((),), [(0, 0, 0, 0)], [], 0)
        self.assert_run(((), (), ()), [(0, 0, 0, 0), (1, 0, 0, 0), (2, 0, 0, 0)], [], 0)


class Works(RunTest):
    def test_slownesses(self):
        tasks = ((work(3, "p"), work(4, "q"), work(5, "r")),)
        for x in SLOWNESSES:
            program, setting = Program(tasks), Setting({"q": 0, "r": 7, "p": 9})
            self.assertEqual(run(program, setting, "p", x), wanted_run(program, setting, "p", x))
        self.assert_run(tasks, [(0, 0, 0, 6), (0, 1, 6, 6), (0, 2, 6, 41), (0, 3, 41, 41)], [], 41,
                        slownesses={"q": 0, "r": 7, "p": 9}, x=at(2))

    def test_part_of_the_run_hides_that_of_the_setting(self):
        program = Program(((work(3, "p"),),))
        self.assertEqual(run(program, Setting({"p": 5}), "p", (1, 2))[2], (3, 2))
        self.assertEqual(run(program, Setting({"p": 5}), "q", (1, 2))[2], (15, 1))
        self.assertEqual(run(program, Setting(), "other", (1, 2))[2], (3, 1))

    def test_slowness_zero(self):
        self.assert_run(((work(5, "p"), ("take", "m")), (("take", "m"),)),
                        [(0, 0, 0, 0), (0, 1, 0, 0), (0, 2, 0, 0)], [(1, 0)], None, x=at(0))

    def test_great_amounts_and_slownesses(self):
        program = Program(((work(10 ** 30, "p"), work(10 ** 30, "q")),))
        setting = Setting({"q": 10 ** 6})
        x = (10 ** 59 + 1, 10 ** 59)
        journal, waiting, total = run(program, setting, "p", x)
        self.assertEqual((journal[0][3], waiting), ((10 ** 59 + 1, 10 ** 29), []))
        self.assertEqual(total, (10 ** 59 + 1 + 10 ** 65, 10 ** 29))
        for x in ((10 ** 60 - 1, 1), (1, 10 ** 60 - 1), (7 ** 70, 2 ** 190)):
            self.assertEqual(run(program, setting, "p", x), wanted_run(program, setting, "p", x))

    def test_times_are_fractions_without_common_divisors(self):
        program = Program(((work(2, "p"), work(4, "p"), work(1)),))
        self.assertEqual(run(program, Setting(), "p", (3, 4))[0], [
            (0, 0, (0, 1), (3, 2)), (0, 1, (3, 2), (9, 2)), (0, 2, (9, 2), (11, 2)), (0, 3, (11, 2), (11, 2))])

    def test_least_time_and_then_least_number(self):
        self.assert_run(((work(2), work(1)), (work(2),), (work(1), work(1), work(1))), [
            (0, 0, 0, 2), (1, 0, 0, 2), (2, 0, 0, 1), (2, 1, 1, 2), (0, 1, 2, 3), (1, 1, 2, 2), (2, 2, 2, 3),
            (0, 2, 3, 3), (2, 3, 3, 3)], [], 3)


class Locks(RunTest):
    def test_own_lock(self):
        self.assert_run(((("take", "m"), ("take", "m"), ("give", "m")),), [(0, 0, 0, 0)], [(0, 1)], None)

    def test_give_of_another_ones_lock_does_nothing(self):
        self.assert_run(((("take", "m"), work(5), ("give", "m")), (("give", "m"), ("take", "m"))), [
            (0, 0, 0, 0), (0, 1, 0, 5), (1, 0, 0, 0), (0, 2, 5, 5), (1, 1, 0, 5), (0, 3, 5, 5), (1, 2, 5, 5)], [], 5)

    def test_give_of_a_free_lock_does_nothing(self):
        self.assert_run(((("give", "m"), ("take", "m"), ("give", "m"), ("give", "m")),),
                        [(0, 0, 0, 0), (0, 1, 0, 0), (0, 2, 0, 0), (0, 3, 0, 0), (0, 4, 0, 0)], [], 0)

    def test_lock_that_is_never_given(self):
        self.assert_run(((("take", "m"),), (work(1), ("take", "m"))), [(0, 0, 0, 0), (0, 1, 0, 0), (1, 0, 0, 1)], [(1, 1)], None)

    def test_one_anothers_locks(self):
        self.assert_run(((("take", "m"), work(1), ("take", "n")), (("take", "n"), work(1), ("take", "m"))),
                        [(0, 0, 0, 0), (0, 1, 0, 1), (1, 0, 0, 0), (1, 1, 0, 1)], [(0, 2), (1, 2)], None)

    # Task 3 begins to wait first, then 1, then 2.
    WAITERS = ((("take", "m"), work(9), ("give", "m")), (work(2), ("take", "m"), ("give", "m")),
               (work(3), ("take", "m"), ("give", "m")), (work(1), ("take", "m"), ("give", "m")))

    def test_turn(self):
        self.assert_run(self.WAITERS, [
            (0, 0, 0, 0), (0, 1, 0, 9), (1, 0, 0, 2), (2, 0, 0, 3), (3, 0, 0, 1), (0, 2, 9, 9), (3, 1, 1, 9), (0, 3, 9, 9),
            (3, 2, 9, 9), (1, 1, 2, 9), (1, 2, 9, 9), (2, 1, 3, 9), (1, 3, 9, 9), (2, 2, 9, 9), (2, 3, 9, 9), (3, 3, 9, 9)],
            [], 9)

    def test_number(self):
        self.assert_run(self.WAITERS, [
            (0, 0, 0, 0), (0, 1, 0, 9), (1, 0, 0, 2), (2, 0, 0, 3), (3, 0, 0, 1), (0, 2, 9, 9), (1, 1, 2, 9), (0, 3, 9, 9),
            (1, 2, 9, 9), (2, 1, 3, 9), (1, 3, 9, 9), (2, 2, 9, 9), (3, 1, 1, 9), (2, 3, 9, 9), (3, 2, 9, 9), (3, 3, 9, 9)],
            [], 9, rule="number")

    def test_given_lock_goes_to_the_waiting_task_ahead_of_one_that_comes(self):
        self.assert_run(((("take", "m"), work(1), ("give", "m"), ("take", "m"), ("give", "m")), (("take", "m"), work(1), ("give", "m"))), [
            (0, 0, 0, 0), (0, 1, 0, 1), (0, 2, 1, 1), (1, 0, 0, 1), (1, 1, 1, 2), (1, 2, 2, 2), (0, 3, 1, 2), (0, 4, 2, 2),
            (0, 5, 2, 2), (1, 3, 2, 2)], [], 2)

    def test_lock_queue_and_part_of_the_same_name(self):
        self.assert_run(((("take", "p"), ("put", "p", 1), work(1, "p"), ("get", "p"), ("give", "p")),),
                        [(0, 0, 0, 0), (0, 1, 0, 0), (0, 2, 0, 3), (0, 3, 3, 3), (0, 4, 3, 3), (0, 5, 3, 3)], [], 3, x=at(3))


class Queues(RunTest):
    def test_empty_and_full(self):
        self.assert_run(((("get", "q"),),), [], [(0, 0)], None)
        self.assert_run(((("put", "q", 1), ("put", "q", 1)),), [(0, 0, 0, 0)], [(0, 1)], None)
        for capacity in range(1, 10):
            self.assert_run(((("put", "q", 1),) * 12,), [(0, step, 0, 0) for step in range(capacity)], [(0, capacity)], None,
                            capacities={"q": capacity})

    def test_get_waits_for_a_put(self):
        self.assert_run(((("get", "q"), work(1)), (work(5), ("put", "q", 3), work(2))), [
            (1, 0, 0, 5), (1, 1, 5, 5), (0, 0, 0, 5), (0, 1, 5, 6), (1, 2, 5, 7), (0, 2, 6, 6), (1, 3, 7, 7)], [], 7)

    def test_put_waits_for_a_get(self):
        self.assert_run(((("put", "q", 1), ("put", "q", 2), work(1)), (work(5), ("get", "q"), ("get", "q"))), [
            (0, 0, 0, 0), (1, 0, 0, 5), (1, 1, 5, 5), (0, 1, 0, 5), (0, 2, 5, 6), (1, 2, 5, 5), (1, 3, 5, 5), (0, 3, 6, 6)],
            [], 6)

    GETTERS = ((work(9), ("put", "q", 1), ("put", "q", 2), ("put", "q", 3)), (work(2), ("get", "q"), ("skip", 2, 1), work(4)),
               (work(3), ("get", "q"), ("skip", 2, 1), work(4)), (work(1), ("get", "q"), ("skip", 2, 1), work(4)))

    def test_several_getters(self):
        for rule, order in (("turn", [3, 1, 2]), ("number", [1, 2, 3])):
            program, setting = Program(self.GETTERS), Setting(rule=rule)
            journal, waiting, total = run(program, setting, "p", ONE)
            gets = [task for task, step, asked, done in journal if task > 0 and step == 1]
            self.assertEqual((gets, waiting, total), (order, [], (13, 1)))
            # The second put was got by the second one of them, which so leaves out its work.
            worked = sorted(task for task, step, asked, done in journal if task > 0 and step == 3)
            self.assertEqual(worked, sorted([order[0], order[2]]))
            self.assertEqual((journal, waiting, total), wanted_run(program, setting, "p", ONE))

    PUTTERS = ((("put", "q", 0), work(9), ("get", "q"), ("get", "q"), ("get", "q"), ("get", "q")), (work(2), ("put", "q", 1)),
               (work(3), ("put", "q", 2)), (work(1), ("put", "q", 3)))

    def test_several_putters(self):
        for rule, order in (("turn", [3, 1, 2]), ("number", [1, 2, 3])):
            program, setting = Program(self.PUTTERS), Setting(rule=rule)
            journal, waiting, total = run(program, setting, "p", ONE)
            puts = [task for task, step, asked, done in journal if task > 0 and step == 1]
            self.assertEqual((puts, waiting, total), (order, [], (9, 1)))
            self.assertEqual((journal, waiting, total), wanted_run(program, setting, "p", ONE))

    def test_capacity_of_more_than_one(self):
        self.assert_run(((("put", "q", 1), ("put", "q", 2), ("put", "q", 3), ("put", "q", 4)), (work(1), ("get", "q"), ("skip", 1, 1), work(7))), [
            (0, 0, 0, 0), (0, 1, 0, 0), (0, 2, 0, 0), (1, 0, 0, 1), (1, 1, 1, 1), (0, 3, 0, 1), (0, 4, 1, 1), (1, 2, 1, 1), (1, 4, 1, 1)],
            [], 1, capacities={"q": 3})

    def test_first_in_first_out(self):
        values = (4, 0, 9, 4, 2)
        puts = tuple(("put", "q", value) for value in values)
        for wanted in range(10):
            gets = sum(((("get", "q"), ("skip", wanted, 1), work(1)) for value in values), ())
            program = Program((puts, gets), {"q": 5})
            journal = run(program, Setting(), "p", ONE)[0]
            worked = [step // 3 for task, step, asked, done in journal if task == 1 and step % 3 == 2 and step < 15]
            self.assertEqual(worked, [index for index, value in enumerate(values) if value != wanted])

    def test_handed_on_several_times_one_behind_another(self):
        # Task 0 gives; 1 takes and puts; 2 gets and gives; 3 takes: all at the time 4.
        self.assert_run(((("take", "m"), work(4), ("give", "m")), (("take", "m"), ("put", "q", 1), ("give", "m")),
                         (("take", "n"), ("get", "q"), ("give", "n")), (("take", "n"), ("give", "n"))), [
            (0, 0, 0, 0), (0, 1, 0, 4), (2, 0, 0, 0), (0, 2, 4, 4), (1, 0, 0, 4), (0, 3, 4, 4), (1, 1, 4, 4), (2, 1, 0, 4),
            (1, 2, 4, 4), (1, 3, 4, 4), (2, 2, 4, 4), (3, 0, 0, 4), (2, 3, 4, 4), (3, 1, 4, 4), (3, 2, 4, 4)], [], 4)


class Skips(RunTest):
    def test_register_is_zero_at_first(self):
        self.assert_run(((("skip", 0, 1), work(5), work(1)),), [(0, 0, 0, 0), (0, 2, 0, 1), (0, 3, 1, 1)], [], 1)
        self.assert_run(((("skip", 1, 1), work(5), work(1)),), [(0, 0, 0, 0), (0, 1, 0, 5), (0, 2, 5, 6), (0, 3, 6, 6)], [], 6)

    def test_more_than_are_left(self):
        self.assert_run(((("skip", 0, 20), work(5), work(1)),), [(0, 0, 0, 0), (0, 3, 0, 0)], [], 0)
        self.assert_run(((("skip", 0, 2), work(5), work(1)),), [(0, 0, 0, 0), (0, 3, 0, 0)], [], 0)
        self.assert_run(((("skip", 0, 1),),), [(0, 0, 0, 0), (0, 1, 0, 0)], [], 0)

    def test_skip_over_skips(self):
        self.assert_run(((("skip", 0, 1), ("skip", 0, 2), work(5), work(1)),),
                        [(0, 0, 0, 0), (0, 2, 0, 5), (0, 3, 5, 6), (0, 4, 6, 6)], [], 6)

    def test_value_that_was_got(self):
        for value in range(10):
            tasks = ((("put", "q", value),), (("get", "q"), ("skip", 7, 1), work(3), ("skip", 7, 5)))
            found = run(Program(tasks), Setting(), "p", ONE)
            self.assertEqual(found[2], at(0 if value == 7 else 3))

    def test_each_task_has_its_own_register(self):
        tasks = ((("put", "q", 7), ("skip", 7, 1), work(2)), (("get", "q"), ("skip", 7, 1), work(3)))
        self.assertEqual(run(Program(tasks), Setting(), "p", ONE)[2], at(2))

    def test_register_keeps_the_last_value(self):
        tasks = ((("put", "q", 7), ("put", "q", 3)), (("get", "q"), ("get", "q"), ("skip", 7, 1), work(1), ("skip", 3, 1), work(8)))
        self.assertEqual(run(Program(tasks), Setting(), "p", ONE)[2], at(1))

    def test_left_out_wait(self):
        self.assert_run(((("skip", 0, 1), ("get", "q")),), [(0, 0, 0, 0), (0, 2, 0, 0)], [], 0)


class Awaits(RunTest):
    def test_own_end(self):
        self.assert_run(((("await", 0),),), [], [(0, 0)], None)
        self.assert_run(((work(1), ("await", 0)), ()), [(0, 0, 0, 1), (1, 0, 0, 0)], [(0, 1)], None)

    def test_ended_before(self):
        self.assert_run(((), (work(3), ("await", 0), work(1))), [(0, 0, 0, 0), (1, 0, 0, 3), (1, 1, 3, 3), (1, 2, 3, 4), (1, 3, 4, 4)], [], 4)

    def test_one_another(self):
        self.assert_run(((("await", 1),), (("await", 0),), (work(2),)), [(2, 0, 0, 2), (2, 1, 2, 2)], [(0, 0), (1, 0)], None)

    AWAITERS = ((work(9),), (work(2), ("await", 0)), (work(3), ("await", 0)), (work(1), ("await", 0)))

    def test_all_go_on_in_turn(self):
        self.assert_run(self.AWAITERS, [
            (0, 0, 0, 9), (1, 0, 0, 2), (2, 0, 0, 3), (3, 0, 0, 1), (0, 1, 9, 9), (3, 1, 1, 9), (1, 1, 2, 9), (2, 1, 3, 9),
            (1, 2, 9, 9), (2, 2, 9, 9), (3, 2, 9, 9)], [], 9)

    def test_all_go_on_by_number(self):
        self.assert_run(self.AWAITERS, [
            (0, 0, 0, 9), (1, 0, 0, 2), (2, 0, 0, 3), (3, 0, 0, 1), (0, 1, 9, 9), (1, 1, 2, 9), (2, 1, 3, 9), (3, 1, 1, 9),
            (1, 2, 9, 9), (2, 2, 9, 9), (3, 2, 9, 9)], [], 9, rule="number")

    def test_chain_of_ends(self):
        self.assert_run(((("await", 1),), (("await", 2),), (work(2),)), [
            (2, 0, 0, 2), (2, 1, 2, 2), (1, 0, 0, 2), (1, 1, 2, 2), (0, 0, 0, 2), (0, 1, 2, 2)], [], 2)


class Against(RunTest):
    def test_second_machine(self):
        stuck = 0
        for seed in range(900):
            program, setting, x = some_program(seed), some_setting(seed), some_slowness(seed)
            found = run(program, setting, "p", x)
            self.assertEqual(found, wanted_run(program, setting, "p", x), seed)
            stuck += found[2] is None
        self.assertTrue(200 < stuck < 700)

    def test_both_rules(self):
        differ = 0
        for seed in range(300):
            program, x = some_program(seed), some_slowness(seed)
            both = [run(program, Setting(rule=rule), "p", x) for rule in ("turn", "number")]
            differ += both[0] != both[1]
            for rule, found in zip(("turn", "number"), both):
                self.assertEqual(found, wanted_run(program, Setting(rule=rule), "p", x))
        self.assertGreater(differ, 5)


class Conventions(RunTest):
    def test_results_are_new(self):
        program = Program((A, B, (("get", "z"),)))
        first = run(program, Setting(), "p", ONE)
        before = copy.deepcopy(first)
        first[0].clear()
        first[1].append("x")
        self.assertEqual(run(program, Setting(), "p", ONE), before)

    def test_by_name(self):
        program = Program((A, B))
        named = {"x": ONE, "part": "p", "setting": Setting(), "program": program}
        journal = run(**named)[0]
        self.assertEqual(journal, run(program, Setting(), "p", ONE)[0])
        self.assertEqual(list(events(**named)), journal)
        self.assertIsNone(check_journal(value=journal, **named))

    def test_errors(self):
        program = Program((A, B))
        for function, more in ((run, ()), (check_journal, ([],)), (lambda *values: list(events(*values)), ())):
            for name in NOT_NAMES:
                for x in (ONE, (-1, 1), "x"):
                    with self.assertRaises(UnknownName) as caught:
                        function(program, Setting(), name, x, *more)
                    self.assertIs(caught.exception.name, name)
            for x in NOT_SLOWNESSES:
                for part in ("p", "none"):
                    with self.assertRaises(InvalidNumber) as caught:
                        function(program, Setting(), part, x, *more)
                    self.assertIs(caught.exception.value, x)


class Events(RunTest):
    def test_same_entries(self):
        for seed in range(60):
            program, setting, x = some_program(seed), some_setting(seed), some_slowness(seed)
            self.assertEqual(list(events(program, setting, "p", x)), run(program, setting, "p", x)[0])

    def test_generator(self):
        program = Program((A, B))
        found = events(program, Setting(), "p", ONE)
        self.assertTrue(inspect.isgenerator(found))
        self.assertEqual(next(found), (0, 0, (0, 1), (2, 1)))
        self.assertEqual(next(found), (1, 0, (0, 1), (3, 1)))
        self.assertEqual(len(list(found)), 9)

    def test_errors_when_the_iteration_begins(self):
        found = events(Program((A, B)), Setting(), "P", "x")
        with self.assertRaises(UnknownName):
            next(found)
        found = events(Program((A, B)), Setting(), "p", "x")
        with self.assertRaises(InvalidNumber):
            next(found)


class CheckJournal(RunTest):
    def setUp(self):
        self.program = Program((A, B))
        self.journal = run(self.program, Setting(), "p", (5, 4))[0]

    def assert_index(self, index, value):
        found = check_journal(self.program, Setting(), "p", (5, 4), value)
        self.assertEqual(found, index)
        self.assertIs(type(found), type(index))

    def test_the_journal(self):
        self.assert_index(None, self.journal)
        self.assert_index(None, copy.deepcopy(self.journal))

    def test_journals_of_other_runs(self):
        for x in SLOWNESSES:
            other = run(self.program, Setting(), "p", x)[0]
            self.assertEqual(check_journal(self.program, Setting(), "p", x, other), None)
            self.assert_index(0, other)
        self.assert_index(1, run(Program((A, B)), Setting({"r": 2}), "p", (5, 4))[0])

    def test_cut_and_longer(self):
        for size in range(len(self.journal)):
            self.assert_index(size, self.journal[:size])
        for more in (None, self.journal[-1], (), "x", self.journal[0], []):
            self.assert_index(len(self.journal), self.journal + [more])
            self.assert_index(len(self.journal), self.journal + [more, more])

    def test_left_out_doubled_and_put_elsewhere(self):
        for index in range(len(self.journal)):
            self.assert_index(index, self.journal[:index] + self.journal[index + 1:])
            self.assert_index(index + 1, self.journal[:index + 1] + self.journal[index:])
            self.assert_index(index, self.journal[:index] + [None] + self.journal[index:])
        for index in range(len(self.journal) - 1):
            swapped = list(self.journal)
            swapped[index], swapped[index + 1] = swapped[index + 1], swapped[index]
            self.assert_index(index, swapped)

    def test_one_entry_otherwise(self):
        for index, entry in enumerate(self.journal):
            task, step, asked, done = entry
            others = [
                list(entry), entry + (0,), entry[:3], (), None, (1 - task, step, asked, done), (task, step + 1, asked, done),
                (task, step, done, asked) if asked != done else None, (task, step, list(asked), done),
                (task, step, asked, list(done)), (task, step, asked, (done[0] + 1, done[1])),
                (task, step, asked, (2 * done[0], 2 * done[1])), (task, step, asked, None), (bool(task), step, asked, done),
                (task, step, (asked[0], True), done), (task, step, asked, (done[0], True)), (task, step, asked[0], done[0]),
                (task, str(step), asked, done), (entry,), [entry],
            ]
            for other in others:
                with self.subTest(index=index, other=other):
                    self.assert_index(index, self.journal[:index] + [other] + self.journal[index + 1:])

    def test_bools_for_zero_and_one(self):
        program = Program(((work(1, "p"),),))
        journal = run(program, Setting(), "p", ONE)[0]
        self.assertEqual(journal, [(0, 0, (0, 1), (1, 1)), (0, 1, (1, 1), (1, 1))])
        for wrong in ((False, 0, (0, 1), (1, 1)), (0, False, (0, 1), (1, 1)), (0, 0, (False, 1), (1, 1)),
                      (0, 0, (0, True), (1, 1)), (0, 0, (0, 1), (True, 1)), (0, 0, (0, 1), (1, True))):
            self.assertEqual(wrong, journal[0])
            self.assertEqual(check_journal(program, Setting(), "p", ONE, [wrong, journal[1]]), 0)

    def test_no_list(self):
        for value in OTHER_VALUES + [tuple(self.journal), {0: self.journal}, iter(self.journal), 3, "journal"]:
            if not isinstance(value, list):
                self.assert_index(0, value)

    def test_empty(self):
        self.assert_index(0, [])
        stuck = Program(((("get", "q"),),))
        self.assertIsNone(check_journal(stuck, Setting(), "p", ONE, []))
        self.assertEqual(check_journal(stuck, Setting(), "p", ONE, [None]), 0)
        self.assertEqual(check_journal(stuck, Setting(), "p", ONE, ()), 0)

    def test_the_value_stays(self):
        value = copy.deepcopy(self.journal) + [["x"]]
        before = copy.deepcopy(value)
        self.assert_index(len(self.journal), value)
        self.assertEqual(value, before)


if __name__ == "__main__":
    unittest.main()
