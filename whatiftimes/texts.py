"""Texts of programs and of their steps."""

from whatiftimes.errors import InvalidText
from whatiftimes.programs import Program
from whatiftimes.rows import read_step_row, step_row
from whatiftimes.steps import is_step


def write_step(step):
    """Return the text of a step."""
    return step_row(step)


def write_program(program):
    """Return the text of a program."""
    return program.text


def read_step(text, tasks):
    """Return the step of a program with so many tasks that any text tells."""
    step = read_step_row(text) if isinstance(text, str) else None
    # A row may await any task; whether it is there depends on the number of tasks.
    if not is_step(step, tasks):
        raise InvalidText(0)
    return step


def read_program(text):
    """Return the program that any text tells."""
    return Program.read(text)
