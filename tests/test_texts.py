"""Tests of whatiftimes.texts; those of Program.text and Program.read, which are the same, stand in test_program_texts."""

import unittest

from tests.reference import lively_program, some_program
from tests.test_program_texts import ALL_KINDS, ALL_ROWS, BAD_QUEUE_ROWS, BAD_STEP_ROWS
from tests.values import OTHER_VALUES
from whatiftimes.errors import InvalidText
from whatiftimes.programs import Program, is_step
from whatiftimes.texts import read_program, read_step, write_program, write_step


class TextTest(unittest.TestCase):
    def assert_place(self, place, function, *args):
        with self.assertRaises(InvalidText) as caught:
            function(*args)
        self.assertEqual(caught.exception.place, place, args)
        self.assertIs(type(caught.exception.place), int)


class Steps(TextTest):
    def test_example(self):
        self.assertEqual(write_step(("skip", 7, 2)), "skip 7 2")
        self.assertEqual(read_step("skip 7 2", 1), ("skip", 7, 2))

    def test_all_kinds_there_and_back(self):
        self.assertEqual("\n".join(write_step(step) for step in ALL_KINDS), ALL_ROWS)
        for step, row in zip(ALL_KINDS, ALL_ROWS.split("\n")):
            self.assertEqual(read_step(row, 2), step)
            self.assertIs(type(read_step(row, 2)), tuple)

    def test_steps_of_many_programs(self):
        for seed in range(100):
            program = some_program(seed)
            for step in [step for task in program.tasks for step in task]:
                self.assertEqual(read_step(write_step(step), len(program)), step)

    def test_awaits_for_every_number_of_tasks(self):
        for tasks in range(1, 7):
            for task in range(10):
                if task < tasks:
                    self.assertEqual(read_step(f"await {task}", tasks), ("await", task))
                else:
                    self.assert_place(0, read_step, f"await {task}", tasks)
            self.assert_place(0, read_step, "await " + "9" * 60, tasks)

    def test_numbers_at_the_limits(self):
        for row in ("work p 0", f"work p {10 ** 30}", "put q 0", "put q 9", "skip 0 1", "skip 9 20", "take abcdefgh"):
            self.assertEqual(write_step(read_step(row, 1)), row)
            self.assertTrue(is_step(read_step(row, 1), 1))
        for row in (f"work p {10 ** 30 + 1}", "put q 10", "skip 10 1", "skip 0 0", "skip 0 21", "take abcdefghi", "work p -1", "put q -1"):
            self.assert_place(0, read_step, row, 6)

    def test_texts_that_are_no_steps(self):
        for row in BAD_STEP_ROWS + ["task", "work p 1\n", "\nwork p 1", "work p 1\ntake m", "take m\n"]:
            for tasks in (1, 6):
                self.assert_place(0, read_step, row, tasks)

    def test_no_texts(self):
        for value in OTHER_VALUES + [("work", "p", 1), b"take m", ["take m"], 7]:
            if not isinstance(value, str):
                self.assert_place(0, read_step, value, 1)

    def test_by_name(self):
        self.assertEqual(write_step(step=read_step(tasks=1, text="take m")), "take m")


class Programs(TextTest):
    def test_example(self):
        self.assertEqual(read_program("queue b 2\ntask\nget b\ntask").tasks, ((("get", "b"),), ()))

    def test_the_same_as_of_programs(self):
        for seed in range(150):
            program = some_program(seed) if seed % 2 else lively_program(seed)
            self.assertEqual(write_program(program), program.text)
            self.assertEqual(read_program(program.text), program)
            self.assertIs(type(read_program(program.text)), Program)

    def test_rows_joined_by_newlines(self):
        program = Program((ALL_KINDS, (), (("get", "a"),)), {"q": 2, "b": 1, "a": 9})
        self.assertEqual(write_program(program), f"queue a 9\nqueue q 2\ntask\n{ALL_ROWS}\ntask\ntask\nget a")

    def test_queues_in_any_order_and_with_capacity_one(self):
        self.assertEqual(read_program("queue z 1\nqueue b 2\nqueue a 3\ntask"), Program(((),), {"a": 3, "b": 2}))

    def test_rows_that_cannot_stand_there(self):
        twenty = "\n".join(["take m"] * 20)
        for place, text in (
            (0, ""), (0, "\n"), (0, "take m"), (1, "queue q 2"), (2, "queue q 2\nqueue r 2"), (1, "queue q 2\nqueue q 2\ntask"), (1, "task\nqueue q 2"),
            (6, "\n".join(["task"] * 7)), (21, f"task\n{twenty}\ntake m"), (22, f"task\n{twenty}\ntask\nno"), (1, "task\nawait 1"), (2, "task\nawait 1\nno"),
            (1, "queue q 2\ntake m\ntask"), (1, "task\n"), (3, "task\nawait 0\ntask\nawait 2"), (1, "task\nawait 2\ntask\nawait 3"),
            (1, "task\nawait 01\nawait 9"),
        ):
            self.assert_place(place, read_program, text)
            self.assert_place(place, Program.read, text)
        self.assertEqual(len(read_program(f"task\n{twenty}\ntask\n{twenty}").tasks[1]), 20)
        self.assertEqual(read_program("task\nawait 1\ntask").tasks, ((("await", 1),), ()))

    def test_rows_put_otherwise(self):
        for row in BAD_STEP_ROWS:
            self.assert_place(2, read_program, f"task\ntake m\n{row}\nno")
        for row in BAD_QUEUE_ROWS:
            self.assert_place(1, read_program, f"queue a 2\n{row}\ntask")

    def test_no_texts(self):
        for value in OTHER_VALUES + [b"task", ["task"], Program(((),))]:
            if not isinstance(value, str):
                self.assert_place(0, read_program, value)

    def test_by_name(self):
        self.assertEqual(write_program(program=read_program(text="task")), "task")


if __name__ == "__main__":
    unittest.main()
