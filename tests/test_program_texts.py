"""Tests of the texts of programs: Program.text and Program.read."""

import unittest

from tests.reference import some_program
from tests.values import OTHER_VALUES
from whatiftimes.errors import InvalidText
from whatiftimes.programs import Program

ALL_KINDS = (("work", "p", 0), ("work", "abcdefgh", 10 ** 30), ("take", "m"), ("give", "m"), ("put", "q", 9), ("get", "q"),
             ("skip", 0, 20), ("skip", 9, 1), ("await", 1))
ALL_ROWS = ("work p 0\nwork abcdefgh 1000000000000000000000000000000\ntake m\ngive m\nput q 9\nget q\nskip 0 20\n"
            "skip 9 1\nawait 1")

BAD_STEP_ROWS = [
    "", " ", "work", "work p", "work p ", "work  p 1", " work p 1", "work p 1 ", "work p 1 1", "work p -1", "work p +1",
    "work p 01", "work p 00", "work p 1.0", "work p 1_0", "work p x", "work p", "work 1 p", "work P 1", "work p1 1",
    "work abcdefghi 1", "Work p 1", "WORK p 1", "work\tp 1", "work p\t1", "work p 1\t", "work,p,1",
    "work p 1000000000000000000000000000001", "work p 10000000000000000000000000000000", "work p 1e3", "work p 0x1",
    "take", "take ", "take m m", "take M", "take  m", "take abcdefghi", "take 1", "take m1", "give", "give 1", "give m 1",
    "put q", "put q 10", "put q -1", "put q 00", "put q 09", "put 1 q", "put q 1 1", "put Q 1", "get", "get q q", "get 1",
    "get q 1", "skip", "skip 0", "skip 0 0", "skip 10 1", "skip 0 21", "skip 0 01", "skip 00 1", "skip a 1", "skip 0 -1",
    "skip 0 1 1", "await", "await ", "await -1", "await 01", "await 00", "await +1", "await x", "await 0 0", "await  0",
    "await 1.0", "end", "task 1", "task ", " task", "Task", "task\t", "queue q 2", "queue", "wait 0", "#", "work p 1 # no",
]

BAD_QUEUE_ROWS = [
    "", " ", "queue", "queue ", "queue q", "queue q ", "queue q 0", "queue q 10", "queue q 01", "queue q -1", "queue q +1",
    "queue q x", "queue Q 1", "queue q1 1", "queue abcdefghi 1", "queue  q 1", "queue q  1", " queue q 1", "queue q 1 ",
    "queue q 1 1", "queue 1 q", "Queue q 1", "queue q 12", "queue q 1.", "queue\tq 1", "work p 1", "take m", "await 0",
    "get q", "task 0", " task",
]


class TextTest(unittest.TestCase):
    def assert_place(self, place, text):
        with self.assertRaises(InvalidText) as caught:
            Program.read(text)
        self.assertEqual(caught.exception.place, place, text)
        self.assertIs(type(caught.exception.place), int)


class Written(TextTest):
    def test_example(self):
        program = Program(((("work", "p", 2), ("put", "q", 7)), (("get", "q"),)), {"q": 3})
        self.assertEqual(program.text, "queue q 3\ntask\nwork p 2\nput q 7\ntask\nget q")

    def test_all_kinds(self):
        self.assertEqual(Program((ALL_KINDS, ())).text, "task\n" + ALL_ROWS + "\ntask")

    def test_empty_tasks(self):
        self.assertEqual(Program(((),)).text, "task")
        self.assertEqual(Program(((), (), ())).text, "task\ntask\ntask")

    def test_queues_in_ascending_order_without_capacity_one(self):
        program = Program(((),), {"b": 2, "ab": 9, "z": 1, "a": 3})
        self.assertEqual(program.text, "queue a 3\nqueue ab 9\nqueue b 2\ntask")
        self.assertEqual(program.text, Program(((),), {"a": 3, "ab": 9, "b": 2}).text)
        self.assertEqual(program.with_capacity("ab", 1).text, "queue a 3\nqueue b 2\ntask")

    def test_text_cannot_be_set(self):
        with self.assertRaises(AttributeError):
            Program(((),)).text = "task"


class Read(TextTest):
    def test_example(self):
        self.assertEqual(Program.read("queue b 2\ntask\nget b\ntask").tasks, ((("get", "b"),), ()))
        self.assertEqual(Program.read("queue b 2\ntask\nget b\ntask"), Program(((("get", "b"),), ()), {"b": 2}))

    def test_all_kinds(self):
        self.assertEqual(Program.read("task\n" + ALL_ROWS + "\ntask"), Program((ALL_KINDS, ())))

    def test_queues_in_any_order_and_with_capacity_one(self):
        wanted = Program(((),), {"a": 3, "b": 2})
        self.assertEqual(Program.read("queue b 2\nqueue z 1\nqueue a 3\ntask"), wanted)
        self.assertEqual(Program.read("queue a 3\nqueue b 2\ntask"), wanted)
        for capacity in range(1, 10):
            self.assertEqual(Program.read(f"queue q {capacity}\ntask").capacity("q"), capacity)

    def test_names_like_words(self):
        text = "queue task 2\ntask\nwork task 1\ntake work\ngive await\nput task 1\nget queue"
        program = Program.read(text)
        self.assertEqual(program.text, text)
        self.assertEqual(program.capacity("task"), 2)

    def test_back_and_forth(self):
        for seed in range(300):
            program = some_program(seed)
            self.assertEqual(Program.read(program.text), program)
            self.assertEqual(Program.read(program.text).text, program.text)

    def test_greatest_program(self):
        program = Program((ALL_KINDS[:8] * 2 + ALL_KINDS[:4],) * 6, {"q": 9})
        self.assertEqual(Program.read(program.text), program)

    def test_kinds_of_the_result(self):
        program = Program.read("task\nput q 1\nskip 1 1\nawait 0")
        self.assertIs(type(program), Program)
        self.assertIs(type(program.tasks), tuple)
        self.assertEqual([type(step) for step in program.tasks[0]], [tuple, tuple, tuple])

    def test_by_name(self):
        self.assertEqual(Program.read(text="task"), Program(((),)))


class ReadErrors(TextTest):
    def test_no_text(self):
        for value in OTHER_VALUES + [["task"], ("task",), b"task", 0, Program(((),))]:
            if not isinstance(value, str):
                self.assert_place(0, value)

    def test_rows_that_are_no_steps(self):
        for row in BAD_STEP_ROWS:
            with self.subTest(row=row):
                self.assert_place(1, "task\n" + row)
                self.assert_place(4, "queue q 2\ntask\ntask\nget q\n" + row + "\ntask\nalso bad\nawait 9")

    def test_rows_ahead_of_the_first_task(self):
        for row in BAD_QUEUE_ROWS:
            with self.subTest(row=row):
                self.assert_place(0, row)
                self.assert_place(0, row + "\ntask")
                self.assert_place(1, "queue a 2\n" + row + "\nqueue a 3\ntask")

    def test_capacities_of_one_character(self):
        for code in range(ord(" "), ord("~") + 1):
            if chr(code) not in "123456789":
                self.assert_place(0, f"queue q {chr(code)}\ntask")

    def test_no_task(self):
        self.assert_place(0, "")
        self.assert_place(1, "queue q 2")
        self.assert_place(2, "queue q 2\nqueue r 1")
        self.assert_place(1, "queue q 2\n")

    def test_empty_rows(self):
        self.assert_place(1, "task\n")
        self.assert_place(0, "\ntask")
        self.assert_place(2, "task\ntake m\n")
        self.assert_place(1, "task\n\ntask")

    def test_queue_twice(self):
        self.assert_place(1, "queue q 2\nqueue q 2\ntask")
        self.assert_place(2, "queue q 1\nqueue r 2\nqueue q 3\ntask")

    def test_queue_behind_a_task(self):
        self.assert_place(1, "task\nqueue q 2")
        self.assert_place(3, "task\ntake m\ntask\nqueue q 2\nbad")

    def test_seventh_task(self):
        self.assertEqual(len(Program.read("\n".join(["task"] * 6))), 6)
        self.assert_place(6, "\n".join(["task"] * 7))
        self.assert_place(8, "queue q 2\n" + "\n".join(["task"] * 6) + "\ntake m\ntask\nbad")

    def test_twenty_first_step(self):
        twenty = "task\n" + "\n".join(["take m"] * 20)
        self.assertEqual(len(Program.read(twenty).tasks[0]), 20)
        self.assertEqual(len(Program.read(twenty + "\n" + twenty).tasks), 2)
        self.assert_place(21, twenty + "\ntake m")
        self.assert_place(21, twenty + "\ntake m\nbad")
        self.assert_place(42, twenty + "\n" + twenty + "\nget q")

    def test_await_is_looked_at_last(self):
        self.assert_place(1, "task\nawait 1")
        self.assert_place(2, "task\ntake m\nawait 1")
        self.assert_place(1, "task\nawait 6")
        self.assert_place(1, "task\nawait " + "9" * 900)
        self.assert_place(2, "task\nawait 9\nbad")
        self.assert_place(3, "task\nawait 1\nawait 0\nawait 01")
        self.assert_place(2, "task\nawait 0\nawait 1\nawait 2")
        self.assert_place(7, "task\nawait 6\ntask\ntask\ntask\ntask\ntask\ntask")
        self.assert_place(4, "queue q 2\ntask\nawait 1\ntask\nawait 2")
        self.assertEqual(Program.read("task\nawait 1\ntask").tasks, ((("await", 1),), ()))

    def test_first_of_several(self):
        self.assert_place(0, "queue q 0\nqueue q 0\ntask\nbad")
        self.assert_place(1, "queue q 2\nqueue q 0\nbad")
        self.assert_place(2, "queue q 2\ntask\nbad\nqueue q 2")


if __name__ == "__main__":
    unittest.main()
