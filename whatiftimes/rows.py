"""Programs as rows of text: how tasks and capacities are written, and read again."""

from whatiftimes.errors import InvalidText
from whatiftimes.names import is_name
from whatiftimes.numerals import whole_of
from whatiftimes.steps import MOST_STEPS, MOST_TASKS, form_of, is_step


def step_row(step):
    """Return the row of a step."""
    return " ".join([str(word) for word in step])


def program_text(tasks, capacities):
    """Return the text of a program; capacities has the queues whose capacity is not 1."""
    rows = [f"queue {name} {capacities[name]}" for name in sorted(capacities)]
    for task in tasks:
        rows.append("task")
        rows.extend([step_row(step) for step in task])
    return "\n".join(rows)


def read_step_row(row):
    """Return the step of a row, None if it is none; the task of an await may be any integer from 0."""
    words = row.split(" ")
    form = form_of(words[0])
    if form is None or len(words) != len(form) + 1:
        return None
    items = [word if kind == "name" else whole_of(word) for word, kind in zip(words[1:], form)]
    step = (words[0], *items)
    if words[0] == "await":
        return None if items[0] is None else step
    return step if is_step(step, MOST_TASKS) else None


def read_program_text(text):
    """Return the tuple (tasks, capacities) that a text tells; raise InvalidText if it tells none."""
    if not isinstance(text, str):
        raise InvalidText(0)
    rows = text.split("\n")
    start = rows.index("task") if "task" in rows else len(rows)
    capacities = read_queues(rows[:start])
    if start == len(rows):
        raise InvalidText(start)
    tasks = read_tasks(rows, start)
    check_awaits(rows, len(tasks))
    return (tasks, capacities)


def read_queues(rows):
    """Return the capacities that the rows ahead of the first task tell."""
    capacities = {}
    for at, row in enumerate(rows):
        words = row.split(" ")
        if not is_queue_row(words) or words[1] in capacities:
            raise InvalidText(at)
        capacities[words[1]] = int(words[2])
    return capacities


def is_queue_row(words):
    """Tell whether words are those of a row of a queue."""
    if len(words) != 3 or words[0] != "queue" or not is_name(words[1]):
        return False
    # A capacity from 1 to 9 is one digit.
    return len(words[2]) == 1 and words[2] in "123456789"


def read_tasks(rows, start):
    """Return the tasks that the rows from start on tell; the first of them begins a task."""
    tasks = []
    for at in range(start, len(rows)):
        if rows[at] == "task":
            if len(tasks) == MOST_TASKS:
                raise InvalidText(at)
            tasks.append([])
        else:
            step = read_step_row(rows[at])
            if step is None or len(tasks[-1]) == MOST_STEPS:
                raise InvalidText(at)
            tasks[-1].append(step)
    return tuple([tuple(task) for task in tasks])


def check_awaits(rows, tasks):
    """Raise InvalidText for the first row that awaits a task which is not there."""
    for at, row in enumerate(rows):
        words = row.split(" ")
        if words[0] == "await" and int(words[1]) >= tasks:
            raise InvalidText(at)
