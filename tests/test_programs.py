"""Tests of whatiftimes.programs, texts excepted."""

import copy
import unittest

from tests.reference import some_program
from tests.values import NAMES, NOT_INTEGERS, NOT_NAMES, OTHER_VALUES, Plain
from whatiftimes.errors import InvalidNumber, InvalidProgram, UnknownName
from whatiftimes.programs import Program, is_step

# Steps with least and greatest numbers, of a program with three tasks.
STEPS = [
    ("work", "p", 0), ("work", "p", 1), ("work", "abcdefgh", 10 ** 30), ("take", "m"), ("take", "zzzzzzzz"),
    ("give", "m"), ("give", "abcdefgh"), ("put", "q", 0), ("put", "q", 9), ("get", "q"), ("get", "abcdefgh"),
    ("skip", 0, 1), ("skip", 9, 20), ("skip", 0, 20), ("skip", 9, 1), ("await", 0), ("await", 1), ("await", 2),
]

NO_STEPS = [
    (), ("work",), ("work", "p"), ("work", 2, "p"), ("work", "p", -1), ("work", "p", 10 ** 30 + 1), ("work", "p", 1, 1),
    ("take",), ("take", "m", 1), ("take", "m", "m"), ("give",), ("give", "m", 0), ("put",), ("put", "q"), ("put", 1, "q"),
    ("put", "q", -1), ("put", "q", 10), ("put", "q", 1, 1), ("get",), ("get", "q", 1), ("skip",), ("skip", 0),
    ("skip", -1, 1), ("skip", 10, 1), ("skip", 0, 0), ("skip", 0, 21), ("skip", 0, -1), ("skip", 0, 1, 1), ("await",),
    ("await", -1), ("await", 3), ("await", 6), ("await", 0, 0), ("end",), ("wait", 0), ("Work", "p", 1), ("WORK", "p", 1),
    ("work ", "p", 1), ("", "p", 1), (None, "p", 1), (("work",), "p", 1), (["work"], "p", 1), ({}, "p"), (b"work", "p", 1),
    ("queue", "q", 1), ("task",), (0, "p"), (True, "m"), "take", "work p 1", ["take", "m"], {"take": "m"}, b"take",
]

A = (("work", "p", 2), ("take", "m"), ("work", "q", 1), ("give", "m"))
B = (("work", "r", 3), ("take", "m"), ("work", "q", 1), ("give", "m"), ("work", "s", 10))

TWENTY = (("work", "p", 1),) * 20


class Texts(str):
    pass


def changed_items(step):
    """A step with one item put otherwise, left out or put in, none of which is a step."""
    out = [list(step), step + (1,), step + ("a",), (step,), step[1:], step[:-1]]
    for at in range(len(step)):
        for value in (None, True, False, "", "A", "abcdefghi", 1.5, (), [], [step[at]], (step[at],), -1, b"a", {}, Plain()):
            out.append(step[:at] + (value,) + step[at + 1:])
    return out


class ProgramTest(unittest.TestCase):
    def assert_place(self, place, function, *values, **named):
        with self.assertRaises(InvalidProgram) as caught:
            function(*values, **named)
        self.assertEqual(caught.exception.place, place)
        self.assertIs(type(caught.exception.place), type(place))

    def assert_number(self, value, function, *values, **named):
        with self.assertRaises(InvalidNumber) as caught:
            function(*values, **named)
        self.assertIs(caught.exception.value, value)


class IsStep(ProgramTest):
    def test_steps(self):
        for step in STEPS:
            with self.subTest(step=step):
                self.assertIs(is_step(step, 3), True)

    def test_other_tuples(self):
        for value in NO_STEPS + OTHER_VALUES:
            with self.subTest(value=value):
                self.assertIs(is_step(value, 3), False)

    def test_one_item_otherwise(self):
        for step in STEPS:
            for value in changed_items(step):
                with self.subTest(value=value):
                    self.assertIs(is_step(value, 3), False)

    def test_names(self):
        for kind, more in (("work", (1,)), ("take", ()), ("give", ()), ("put", (1,)), ("get", ())):
            for name in NAMES:
                self.assertIs(is_step((kind, name) + more, 1), True, (kind, name))
            for name in NOT_NAMES:
                self.assertIs(is_step((kind, name) + more, 1), False, (kind, name))

    def test_numbers(self):
        for make, low, high in ((lambda n: ("work", "p", n), 0, 10 ** 30), (lambda n: ("put", "q", n), 0, 9),
                                (lambda n: ("skip", n, 1), 0, 9), (lambda n: ("skip", 1, n), 1, 20)):
            for number in (low, low + 1, high - 1, high):
                self.assertIs(is_step(make(number), 2), True, make(number))
            for number in (low - 1, low - 2, high + 1, high + 2, -10 ** 30, 10 ** 31):
                self.assertIs(is_step(make(number), 2), False, make(number))
            for value in NOT_INTEGERS:
                self.assertIs(is_step(make(value), 2), False, value)

    def test_number_of_tasks(self):
        for tasks in range(1, 7):
            for number in range(-2, 9):
                self.assertIs(is_step(("await", number), tasks), 0 <= number < tasks)
            for value in NOT_INTEGERS:
                self.assertIs(is_step(("await", value), tasks), False)

    def test_by_name(self):
        self.assertIs(is_step(tasks=1, value=("await", 0)), True)


class Made(ProgramTest):
    def test_example(self):
        program = Program(((("work", "p", 2), ("put", "q", 7)), (("get", "q"),)), {"q": 3})
        found = (program.parts(), program.capacity("q"), program.capacity("r"), program.step(1, 0), program.text)
        self.assertEqual(found, (["p"], 3, 1, ("get", "q"), "queue q 3\ntask\nwork p 2\nput q 7\ntask\nget q"))

    def test_numbers_of_tasks_and_steps(self):
        for many in range(1, 7):
            program = Program(((),) * many)
            self.assertEqual((len(program), program.tasks), (many, ((),) * many))
            self.assertEqual(len(Program((TWENTY,) * many).tasks[-1]), 20)
        self.assert_place(None, Program, ())
        self.assert_place(None, Program, ((),) * 7)
        self.assert_place(None, Program, (TWENTY,) * 7)

    def test_no_tuple(self):
        for value in (None, [], [A, B], "ab", {}, {0: A}, 0, True, b"", A[0][0], set(), object()):
            with self.subTest(value=value):
                self.assert_place(None, Program, value)

    def test_tasks_that_are_none(self):
        for value in (None, [], list(A), "", "a", 0, True, {}, TWENTY + (("take", "m"),), TWENTY * 2):
            with self.subTest(value=value):
                self.assert_place((0, None), Program, (value,))
                self.assert_place((1, None), Program, (A, value, None))
                self.assert_place((5, None), Program, (A, A, A, A, A, value))
        # A text is no tuple; a step alone is a tuple, but its elements are no steps.
        self.assert_place((0, 0), Program, (("take", "m"),))

    def test_elements_that_are_no_steps(self):
        for value in NO_STEPS + OTHER_VALUES:
            with self.subTest(value=value):
                self.assert_place((0, 0), Program, ((value,), (), ()))
                self.assert_place((2, 4), Program, (A, B, A + (value, None)))
        for step in STEPS:
            Program(((step,), (), ()))
            for value in changed_items(step):
                self.assert_place((1, 1), Program, (A, (step, value), (value,)))

    def test_await_of_a_task_that_is_not_there(self):
        Program(((("await", 0),),))
        self.assert_place((0, 0), Program, ((("await", 1),),))
        Program(((("await", 1),), ()))
        self.assert_place((1, 0), Program, ((), (("await", 2),)))
        Program(((), (), (), (), (), (("await", 5),)))
        self.assert_place((5, 0), Program, ((), (), (), (), (), (("await", 6),)))

    def test_capacities(self):
        for value in ({}, None, {"q": 1}, {"q": 9}, {name: 5 for name in NAMES}):
            Program((A,), value)
        for value in ([], (), "", 0, True, False, [("q", 1)], (("q", 1),), "q", 3, {"q"}, object()):
            with self.subTest(value=value):
                self.assert_place("capacities", Program, (A,), value)
        for name in NOT_NAMES:
            if not isinstance(name, (list, dict, set)):
                self.assert_place("capacities", Program, (A,), {name: 2})
                self.assert_place("capacities", Program, (A,), {"q": 1, name: 2})
        for capacity in NOT_INTEGERS + [0, -1, 10, 11, 10 ** 30]:
            with self.subTest(capacity=capacity):
                self.assert_place("capacities", Program, (A,), {"q": capacity})
                self.assert_place("capacities", Program, (A,), {"a": 3, "q": capacity})

    def test_order_of_errors(self):
        self.assert_place(None, Program, (), {"q": 0})
        self.assert_place(None, Program, [["x"]], "x")
        self.assert_place((2, None), Program, (("x",), ("x",), None), {"q": 0})
        self.assert_place((1, None), Program, ((("take", "A"),), TWENTY + ("x",), None), {"q": 0})
        self.assert_place((0, 1), Program, ((("take", "m"), "x"), ("x",)), {"q": 0})
        self.assert_place((1, 0), Program, (A, ("x",)), {"q": 0})
        self.assert_place("capacities", Program, (A, B), {"q": 0})

    def test_capacities_are_copied(self):
        given = {"q": 3, "r": 1}
        program = Program((A,), given)
        given["q"] = 5
        given["s"] = 7
        del given["r"]
        self.assertEqual([program.capacity(queue) for queue in ("q", "r", "s")], [3, 1, 1])
        self.assertEqual(program, Program((A,), {"q": 3}))
        self.assertEqual(given, {"q": 5, "s": 7})

    def test_arguments_stay(self):
        given = {"q": 3, "r": 1}
        Program((A,), given)
        self.assertEqual(given, {"q": 3, "r": 1})
        wrong = [A, [B]]
        before = copy.deepcopy(wrong)
        self.assert_place(None, Program, wrong)
        self.assertEqual(wrong, before)

    def test_by_name(self):
        self.assertEqual(Program(capacities={"q": 2}, tasks=(A,)), Program((A,), {"q": 2}))
        self.assertEqual(Program(tasks=(A,)), Program((A,), None))

    def test_texts_of_another_class(self):
        self.assertEqual(Program(((("take", Texts("m")),),)), Program(((("take", "m"),),)))


class Told(ProgramTest):
    def test_tasks(self):
        self.assertEqual(Program((A, B)).tasks, (A, B))
        self.assertIs(type(Program((A, B)).tasks), tuple)
        with self.assertRaises(AttributeError):
            Program((A, B)).tasks = (A,)

    def test_capacity(self):
        program = Program((A,), {"q": 9, "abcdefgh": 2, "one": 1})
        self.assertEqual([program.capacity(name) for name in ("q", "abcdefgh", "one", "m", "z")], [9, 2, 1, 1, 1])
        self.assertEqual(program.capacity(queue="q"), 9)
        for name in NAMES:
            self.assertEqual(program.capacity(name), 2 if name == "abcdefgh" else 1)
        for name in NOT_NAMES:
            with self.subTest(name=name):
                with self.assertRaises(UnknownName) as caught:
                    program.capacity(name)
                self.assertIs(caught.exception.name, name)

    def test_parts(self):
        self.assertEqual(Program((A, B)).parts(), ["p", "q", "r", "s"])
        self.assertEqual(Program(((("take", "m"), ("put", "q", 1), ("get", "r")),)).parts(), [])
        works = tuple(("work", name, 0) for name in ("b", "ab", "a", "b", "aa", "c"))
        self.assertEqual(Program((works, works[:2])).parts(), ["a", "aa", "ab", "b", "c"])

    def test_parts_are_a_new_list(self):
        program = Program((A, B))
        parts = program.parts()
        parts.clear()
        self.assertEqual(program.parts(), ["p", "q", "r", "s"])
        self.assertIsNot(program.parts(), program.parts())

    def test_step(self):
        program = Program((A, B))
        for task, steps in enumerate((A, B)):
            for index, step in enumerate(steps):
                self.assertEqual(program.step(task, index), step)
        self.assertEqual(program.step(index=4, task=1), ("work", "s", 10))

    def test_errors_of_step(self):
        program = Program((A, B, ()))
        for value in NOT_INTEGERS + [-1, 3, 6, -10 ** 30, 10 ** 59]:
            with self.subTest(value=value):
                self.assert_number(value, program.step, value, 0)
                self.assert_number(value, program.step, value, value)
        for value in NOT_INTEGERS + [-1, 4, 20, -10 ** 30, 10 ** 59]:
            with self.subTest(value=value):
                self.assert_number(value, program.step, 0, value)
        self.assert_number(0, program.step, 2, 0)
        self.assert_number("task", program.step, "task", "index")

    def test_len(self):
        for many in range(1, 7):
            self.assertEqual(len(Program((A,) * many)), many)


class Edited(ProgramTest):
    def test_changed(self):
        program = Program((A, B), {"q": 2})
        other = program.changed(0, 1, ("skip", 3, 4))
        self.assertEqual(other, Program(((A[0], ("skip", 3, 4), A[2], A[3]), B), {"q": 2}))
        self.assertEqual(program, Program((A, B), {"q": 2}))
        self.assertEqual(program.changed(step=("await", 0), index=4, task=1).tasks, (A, B[:4] + (("await", 0),)))
        self.assertEqual(program.changed(0, 0, A[0]), program)
        self.assertIsNot(program.changed(0, 0, A[0]), program)

    def test_with_step(self):
        program = Program((A, ()), {"q": 2})
        new = ("put", "q", 3)
        for index in range(5):
            other = program.with_step(0, index, new)
            self.assertEqual(other, Program((A[:index] + (new,) + A[index:], ()), {"q": 2}))
        self.assertEqual(program.with_step(1, 0, new).tasks, (A, (new,)))
        self.assertEqual(program.with_step(step=new, index=0, task=1).tasks, (A, (new,)))
        self.assertEqual(program, Program((A, ()), {"q": 2}))

    def test_without_step(self):
        program = Program((A, (("get", "q"),)), {"q": 2})
        for index in range(4):
            self.assertEqual(program.without_step(0, index), Program((A[:index] + A[index + 1:], (("get", "q"),)), {"q": 2}))
        self.assertEqual(program.without_step(index=0, task=1).tasks, (A, ()))
        self.assertEqual(program, Program((A, (("get", "q"),)), {"q": 2}))

    def test_with_capacity(self):
        program = Program((A,), {"q": 2})
        for capacity in range(1, 10):
            other = program.with_capacity("q", capacity)
            self.assertEqual((other.capacity("q"), other.tasks), (capacity, (A,)))
            self.assertEqual(program.with_capacity(capacity=capacity, queue="new").capacity("new"), capacity)
        self.assertEqual(program.capacity("q"), 2)
        self.assertEqual(program.with_capacity("q", 1), Program((A,)))

    def test_numbers_that_do_not_fit(self):
        program = Program((A, B, ()))
        edits = {
            "changed": (lambda task, index: program.changed(task, index, "no step"), 4),
            "with_step": (lambda task, index: program.with_step(task, index, "no step"), 5),
            "without_step": (program.without_step, 4),
        }
        for name, (edit, end) in edits.items():
            for value in NOT_INTEGERS + [-1, 3, 7, 10 ** 40]:
                with self.subTest(name=name, value=value):
                    self.assert_number(value, edit, value, 0)
                    self.assert_number(value, edit, value, "index")
            for value in NOT_INTEGERS + [-1, end, end + 1, 10 ** 40]:
                with self.subTest(name=name, value=value):
                    self.assert_number(value, edit, 0, value)
        self.assert_number(0, program.changed, 2, 0, A[0])
        self.assert_number(0, program.without_step, 2, 0)
        self.assert_number(1, program.with_step, 2, 1, A[0])

    def test_no_step(self):
        program = Program((A, TWENTY, ()))
        for value in NO_STEPS + OTHER_VALUES:
            with self.subTest(value=value):
                self.assert_place((0, 3), program.changed, 0, 3, value)
                self.assert_place((0, 4), program.with_step, 0, 4, value)
                self.assert_place((2, 0), program.with_step, 2, 0, value)
                self.assert_place((1, 20), program.with_step, 1, 20, value)
        self.assert_place((0, 1), program.changed, 0, 1, ("await", 3))
        self.assert_place((0, 1), program.with_step, 0, 1, ("await", 3))

    def test_twenty_first_step(self):
        program = Program((A, TWENTY))
        for index in (0, 7, 20):
            self.assert_place((1, None), program.with_step, 1, index, ("take", "m"))
        self.assert_number(21, program.with_step, 1, 21, ("take", "m"))
        shorter = program.without_step(1, 0)
        self.assertEqual(len(shorter.with_step(1, 19, ("take", "m")).tasks[1]), 20)

    def test_errors_of_with_capacity(self):
        program = Program((A,))
        for name in NOT_NAMES:
            self.assert_place("capacities", program.with_capacity, name, 2)
        for capacity in NOT_INTEGERS + [0, -1, 10, 10 ** 30]:
            self.assert_place("capacities", program.with_capacity, "q", capacity)
            self.assert_place("capacities", program.with_capacity, "Q", capacity)

    def test_failed_edits_leave_the_program(self):
        program = Program((A, TWENTY), {"q": 2})
        self.assert_place((0, 0), program.changed, 0, 0, "x")
        self.assert_place((1, None), program.with_step, 1, 0, ("take", "m"))
        self.assert_place("capacities", program.with_capacity, "q", 0)
        self.assert_number(9, program.without_step, 0, 9)
        self.assertEqual(program, Program((A, TWENTY), {"q": 2}))

    def test_edits_back_and_forth(self):
        for seed in range(60):
            program = some_program(seed)
            for task, steps in enumerate(program.tasks):
                for index, step in enumerate(steps):
                    self.assertEqual(program.without_step(task, index).with_step(task, index, step), program)
                    other = program.changed(task, index, ("take", "zz"))
                    self.assertNotEqual(other, program)
                    self.assertEqual(other.changed(task, index, step), program)


class Equal(ProgramTest):
    def test_equal(self):
        self.assertTrue(Program((A, B)) == Program((A, B)))
        self.assertFalse(Program((A, B)) != Program((A, B)))
        self.assertTrue(Program((A,), {"q": 2, "r": 3}) == Program((A,), {"r": 3, "q": 2}))

    def test_capacity_one_makes_no_difference(self):
        self.assertEqual(Program((A,)), Program((A,), {"q": 1}))
        self.assertEqual(Program((A,), {"q": 2}), Program((A,), {"q": 2, "r": 1}))
        self.assertEqual(Program((A,), {"q": 2}).with_capacity("r", 1), Program((A,), {"q": 2}))

    def test_unequal(self):
        program = Program((A, B), {"q": 2})
        for other in (Program((B, A), {"q": 2}), Program((A,), {"q": 2}), Program((A, B)), Program((A, B), {"q": 3}),
                      Program((A, B), {"r": 2}), Program((A, B[:4]), {"q": 2}), Program((A, B, ()), {"q": 2})):
            self.assertTrue(program != other)
            self.assertFalse(program == other)

    def test_other_kinds(self):
        program = Program((A,))
        for other in OTHER_VALUES + [(A,), [A], program.text, A]:
            self.assertFalse(program == other)
            self.assertTrue(program != other)


if __name__ == "__main__":
    unittest.main()
