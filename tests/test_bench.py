"""Tests of whatiftimes.bench."""

import random
import unittest

from tests.reference import some_program
from tests.values import NAMES, NOT_NAMES, OTHER_VALUES, Plain
from whatiftimes.bench import Bench
from whatiftimes.errors import InvalidNumber, InvalidProgram, LimitExceeded, NothingToUndo, UnknownName
from whatiftimes.programs import Program

ONE = Program(((("work", "p", 2),),))
OTHER = Program(((("work", "p", 3),), ()))
TWELVE = ["abcdefghijkl"[index] for index in range(12)]


def shown(bench):
    """All that a bench tells at present."""
    return ({name: bench.kept(name) for name in bench.names()}, bench.names(), len(bench))


def history(bench):
    """All that a bench tells, back to its beginning."""
    twin = bench.copy()
    states = [shown(twin)]
    while len(twin):
        twin.undo()
        states.append(shown(twin))
    return states


def longer(program):
    return program.with_step(0, 0, ("take", "m"))


def full():
    bench = Bench()
    for name in TWELVE:
        bench.store(name, ONE)
    return bench


class BenchTest(unittest.TestCase):
    def assert_raises(self, error, attribute, wanted, function, *args):
        with self.assertRaises(error) as caught:
            function(*args)
        found = getattr(caught.exception, attribute)
        self.assertEqual(found, wanted)
        self.assertIs(type(found), type(wanted))


class Edits(BenchTest):
    def test_at_the_beginning(self):
        bench = Bench()
        self.assertEqual((bench.names(), len(bench)), ([], 0))
        self.assert_raises(UnknownName, "name", "one", bench.kept, "one")
        self.assert_raises(NothingToUndo, "name", "edits", bench.undo)

    def test_store_and_keep(self):
        bench = Bench()
        self.assertIs(bench.store("one", ONE), None)
        self.assertEqual((bench.kept("one"), bench.names(), len(bench)), (ONE, ["one"], 1))
        bench.store("one", OTHER)
        self.assertEqual((bench.kept("one"), bench.names(), len(bench)), (OTHER, ["one"], 2))
        # To store the same once more is an edit, too.
        bench.store("one", OTHER)
        self.assertEqual(len(bench), 3)

    def test_names_in_ascending_order(self):
        bench = Bench()
        for name in NAMES:
            bench.store(name, ONE)
        self.assertEqual(bench.names(), sorted(NAMES))

    def test_drop(self):
        bench = Bench()
        bench.store("one", ONE)
        bench.store("two", OTHER)
        self.assertIs(bench.drop("one"), None)
        self.assertEqual(shown(bench), ({"two": OTHER}, ["two"], 3))
        self.assert_raises(UnknownName, "name", "one", bench.drop, "one")
        bench.drop("two")
        self.assertEqual(shown(bench), ({}, [], 4))

    def test_edit(self):
        bench = Bench()
        bench.store("one", ONE)
        seen = []
        made = bench.edit("one", lambda program: seen.append(program) or longer(program))
        self.assertEqual((made, bench.kept("one"), seen, len(bench)), (longer(ONE), longer(ONE), [ONE], 2))
        self.assertEqual(ONE, Program(((("work", "p", 2),),)))

    def test_twelve_names_and_a_thirteenth(self):
        bench = full()
        before = history(bench)
        self.assert_raises(LimitExceeded, "limit", 12, bench.store, "m", ONE)
        self.assertEqual(history(bench), before)
        # A name that is there is no thirteenth one, and behind a drop there is room again.
        bench.store("a", OTHER)
        bench.edit("b", longer)
        self.assert_raises(LimitExceeded, "limit", 12, bench.store, "m", ONE)
        bench.drop("c")
        bench.store("m", ONE)
        self.assertEqual(len(bench.names()), 12)
        self.assert_raises(LimitExceeded, "limit", 12, bench.store, "n", ONE)

    def test_functions_that_raise_or_return_no_program(self):
        bench = Bench()
        bench.store("one", ONE)
        before = history(bench)
        error = Plain()
        for value in OTHER_VALUES + [ONE.tasks, ONE.text, error]:
            self.assert_raises(InvalidProgram, "place", None, bench.edit, "one", lambda program: value)
        self.assert_raises(InvalidNumber, "value", 7, bench.edit, "one", lambda program: program.changed(7, 0, ("take", "m")))
        self.assert_raises(InvalidProgram, "place", (0, 0), bench.edit, "one", lambda program: program.changed(0, 0, "no"))
        self.assert_raises(InvalidProgram, "place", "capacities", bench.edit, "one", lambda program: program.with_capacity("q", 0))
        raised = RuntimeError("no")

        def failing(program):
            raise raised

        with self.assertRaises(RuntimeError) as caught:
            bench.edit("one", failing)
        self.assertIs(caught.exception, raised)
        self.assertEqual(history(bench), before)

    def test_values_under_which_nothing_is_kept(self):
        bench = full()
        before = history(bench)
        for value in NOT_NAMES + OTHER_VALUES + ["x", "m", "ab"]:
            for function in (bench.drop, bench.kept, lambda name: bench.edit(name, longer), lambda name: bench.edit(name, None)):
                with self.assertRaises(UnknownName) as caught:
                    function(value)
                self.assertIs(caught.exception.name, value)
        self.assertEqual(history(bench), before)

    def test_errors_of_store_in_order(self):
        bench = full()
        before = history(bench)
        for name in NOT_NAMES:
            with self.assertRaises(UnknownName) as caught:
                bench.store(name, None)
            self.assertIs(caught.exception.name, name)
        for value in OTHER_VALUES + [ONE.tasks, ONE.text, Bench()]:
            self.assert_raises(InvalidProgram, "place", None, bench.store, "x", value)
            self.assert_raises(InvalidProgram, "place", None, bench.store, "a", value)
        self.assert_raises(LimitExceeded, "limit", 12, bench.store, "x", ONE)
        self.assertEqual(history(bench), before)

    def test_lists_belong_to_the_caller(self):
        bench = full()
        bench.names().clear()
        bench.names().append("x")
        self.assertEqual(bench.names(), TWELVE)

    def test_by_name(self):
        bench = Bench()
        bench.store(program=ONE, name="one")
        self.assertEqual(bench.edit(change=longer, name="one"), longer(ONE))
        self.assertEqual(bench.kept(name="one"), longer(ONE))
        self.assertEqual(bench.attempt(visitor=len), 2)
        bench.drop(name="one")
        self.assertEqual(len(bench), 3)


class Undo(BenchTest):
    def test_back_to_the_beginning_and_once_more(self):
        for seed in range(25):
            source = random.Random(seed)
            bench, states = Bench(), []
            for count in range(40):
                states.append(shown(bench))
                some_edit(source, bench)
                # Now and then something is taken back and goes on otherwise.
                if source.random() < 0.25:
                    bench.undo()
                    self.assertEqual(shown(bench), states.pop())
            self.assertEqual(len(bench), len(states))
            while states:
                self.assertIs(bench.undo(), None)
                self.assertEqual(shown(bench), states.pop())
            self.assertEqual(shown(bench), ({}, [], 0))
            self.assert_raises(NothingToUndo, "name", "edits", bench.undo)
            self.assertEqual(shown(bench), ({}, [], 0))

    def test_each_kind(self):
        bench = Bench()
        bench.store("one", ONE)
        bench.store("one", OTHER)
        bench.undo()
        self.assertEqual(shown(bench), ({"one": ONE}, ["one"], 1))
        bench.edit("one", longer)
        bench.undo()
        self.assertEqual(shown(bench), ({"one": ONE}, ["one"], 1))
        bench.drop("one")
        bench.undo()
        self.assertEqual(shown(bench), ({"one": ONE}, ["one"], 1))
        bench.undo()
        self.assertEqual(shown(bench), ({}, [], 0))

    def test_what_raised_is_not_taken_back(self):
        bench = full()
        for failing in (lambda: bench.store("m", ONE), lambda: bench.drop("m"), lambda: bench.edit("a", lambda program: None)):
            with self.assertRaises((LimitExceeded, UnknownName, InvalidProgram)):
                failing()
        bench.undo()
        self.assertEqual(bench.names(), TWELVE[:-1])


def some_edit(source, bench):
    """One store, drop or edit that does not fail."""
    kind = source.choice(("store", "store", "drop", "edit"))
    names = bench.names()
    if kind == "store" or not names:
        bench.store(source.choice(names if len(names) == 12 else TWELVE), some_program(source.randint(0, 9)))
    elif kind == "drop":
        bench.drop(source.choice(names))
    else:
        bench.edit(source.choice(names), lambda program: program.with_capacity("q", source.randint(1, 9)))


class Copies(BenchTest):
    def test_own_histories(self):
        bench = full()
        before = history(bench)
        twin = bench.copy()
        self.assertIs(type(twin), Bench)
        self.assertEqual(history(twin), before)
        twin.drop("a")
        twin.edit("b", longer)
        self.assertEqual(history(bench), before)
        other = twin.copy()
        bench.undo()
        bench.undo()
        bench.store("z", OTHER)
        self.assertEqual((len(bench), len(twin), len(other)), (11, 14, 14))
        self.assertEqual(history(bench)[1:], before[2:])
        self.assertEqual(history(twin), history(other))
        while len(twin):
            twin.undo()
        self.assertEqual((len(bench), len(other), twin.names()), (11, 14, []))

    def test_equality(self):
        bench, other = Bench(), Bench()
        self.assertTrue(bench == other)
        bench.store("one", ONE)
        self.assertTrue(bench != other)
        other.store("one", OTHER)
        self.assertFalse(bench == other)
        other.store("one", ONE)
        # The histories make no difference.
        self.assertTrue(bench == other)
        bench.store("two", OTHER)
        other.store("three", OTHER)
        self.assertFalse(bench == other)
        self.assertTrue(bench == bench.copy())

    def test_equality_whatever_the_order(self):
        bench, other = Bench(), Bench()
        for name in TWELVE:
            bench.store(name, ONE)
        for name in TWELVE[::-1]:
            other.store(name, Program(((("work", "p", 2),),), {"z": 1}))
        self.assertTrue(bench == other)

    def test_other_kinds(self):
        for value in OTHER_VALUES + [{}, [], {"one": ONE}, ONE]:
            self.assertFalse(Bench() == value)
            self.assertTrue(Bench() != value)


class Attempts(BenchTest):
    def test_visitors_that_edit_and_undo(self):
        bench = full()
        before = history(bench)

        def visitor(tried):
            tried.edit("a", longer)
            tried.drop("b")
            for count in range(10):
                tried.undo()
            tried.store("z", OTHER)
            return tried.names()

        self.assertEqual(bench.attempt(visitor), ["a", "b", "c", "d", "z"])
        self.assertEqual(history(bench), before)
        bench.attempt(lambda tried: [tried.undo() for count in range(12)])
        self.assertEqual(history(bench), before)

    def test_the_very_bench_and_the_very_result(self):
        bench = Bench()
        for result in ([], {}, Plain(), None):
            self.assertIs(bench.attempt(lambda tried: result), result)
        self.assertIs(bench.attempt(lambda tried: tried), bench)
        names = full().attempt(lambda tried: tried.names())
        names.clear()

    def test_visitors_that_fail(self):
        bench = full()
        before = history(bench)
        error = KeyError("no")

        def failing(tried):
            tried.drop("a")
            tried.undo()
            tried.undo()
            raise error

        with self.assertRaises(KeyError) as caught:
            bench.attempt(failing)
        self.assertIs(caught.exception, error)
        self.assertEqual(history(bench), before)
        self.assert_raises(UnknownName, "name", "z", bench.attempt, lambda tried: (tried.drop("a"), tried.drop("z")))
        self.assert_raises(LimitExceeded, "limit", 12, bench.attempt, lambda tried: (tried.edit("a", longer), tried.store("z", ONE)))
        self.assertEqual(history(bench), before)

    def test_one_within_another(self):
        bench = full()
        before = history(bench)

        def outer(tried):
            tried.drop("a")
            middle = history(tried)
            names = tried.attempt(lambda again: (again.drop("b"), again.undo(), again.undo(), again.names())[-1])
            self.assertEqual(names, TWELVE)
            self.assertEqual(history(tried), middle)
            with self.assertRaises(UnknownName):
                tried.attempt(lambda again: (again.drop("c"), again.drop("a")))
            self.assertEqual(history(tried), middle)
            tried.undo()
            return tried.names()

        self.assertEqual(bench.attempt(outer), TWELVE)
        self.assertEqual(history(bench), before)

    def test_copy_made_by_a_visitor_stays(self):
        bench = full()
        twin = bench.attempt(lambda tried: (tried.drop("a"), tried.copy())[1])
        self.assertEqual((twin.names(), len(twin), len(bench)), (TWELVE[1:], 13, 12))


if __name__ == "__main__":
    unittest.main()
