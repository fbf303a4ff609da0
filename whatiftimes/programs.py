"""Programs: tasks of steps, and the capacities of queues."""

from whatiftimes.errors import InvalidNumber, InvalidProgram
from whatiftimes.integers import is_whole
from whatiftimes.names import is_name, require_name
from whatiftimes.rows import program_text, read_program_text
from whatiftimes.steps import MOST_STEPS, MOST_TASKS, is_step


def require_tasks(tasks):
    """Raise InvalidProgram unless any value is a tuple of tasks."""
    if not isinstance(tasks, tuple) or not 1 <= len(tasks) <= MOST_TASKS:
        raise InvalidProgram(None)
    for number, task in enumerate(tasks):
        if not isinstance(task, tuple) or len(task) > MOST_STEPS:
            raise InvalidProgram((number, None))
    for number, task in enumerate(tasks):
        for index, step in enumerate(task):
            if not is_step(step, len(tasks)):
                raise InvalidProgram((number, index))


def is_capacity(value):
    """Tell whether any value is a capacity."""
    return is_whole(value) and 1 <= value <= 9


def require_capacities(capacities):
    """Raise InvalidProgram unless any value is a dict from names to capacities."""
    if not isinstance(capacities, dict):
        raise InvalidProgram("capacities")
    for queue, capacity in capacities.items():
        if not is_name(queue) or not is_capacity(capacity):
            raise InvalidProgram("capacities")


def is_index(value, size):
    """Tell whether any value is an index of something with so many items."""
    return is_whole(value) and 0 <= value < size


class Program:
    """The tasks and capacities of a program; it never changes."""

    def __init__(self, tasks, capacities=None):
        require_tasks(tasks)
        given = {} if capacities is None else capacities
        require_capacities(given)
        self.plans = tasks
        # Capacity 1 is that of all other queues, so it makes no difference whether it was given.
        self.rooms = {queue: given[queue] for queue in given if given[queue] != 1}

    @classmethod
    def read(cls, text):
        """Return the program that a text tells."""
        tasks, capacities = read_program_text(text)
        return cls(tasks, capacities)

    @property
    def tasks(self):
        """The tuple of the tasks."""
        return self.plans

    @property
    def text(self):
        """The text of the program."""
        return program_text(self.plans, self.rooms)

    def __len__(self):
        return len(self.plans)

    def __eq__(self, other):
        return isinstance(other, Program) and self.plans == other.plans and self.rooms == other.rooms

    def capacity(self, queue):
        """Return the capacity of a queue."""
        require_name(queue)
        return self.rooms.get(queue, 1)

    def parts(self):
        """Return the names of the parts that occur, in ascending order."""
        return sorted({step[1] for task in self.plans for step in task if step[0] == "work"})

    def step(self, task, index):
        """Return one step."""
        self.require_place(task, index, 0)
        return self.plans[task][index]

    def changed(self, task, index, step):
        """Return a program with another step at this place."""
        self.require_place(task, index, 0)
        self.require_step(task, index, step)
        return self.spliced(task, index, index + 1, (step,))

    def with_step(self, task, index, step):
        """Return a program with one more step, ahead of the one with this index or at the end."""
        self.require_place(task, index, 1)
        self.require_step(task, index, step)
        if len(self.plans[task]) == MOST_STEPS:
            raise InvalidProgram((task, None))
        return self.spliced(task, index, index, (step,))

    def without_step(self, task, index):
        """Return a program with one step less."""
        self.require_place(task, index, 0)
        return self.spliced(task, index, index + 1, ())

    def with_capacity(self, queue, capacity):
        """Return a program with another capacity of a queue."""
        if not is_name(queue) or not is_capacity(capacity):
            raise InvalidProgram("capacities")
        return Program(self.plans, {**self.rooms, queue: capacity})

    def require_place(self, task, index, more):
        """Raise InvalidNumber unless there is such a task, and in it such a step, or one of so many more."""
        if not is_index(task, len(self.plans)):
            raise InvalidNumber(task)
        if not is_index(index, len(self.plans[task]) + more):
            raise InvalidNumber(index)

    def require_step(self, task, index, step):
        """Raise InvalidProgram with this place unless any value is a step of the program."""
        if not is_step(step, len(self.plans)):
            raise InvalidProgram((task, index))

    def spliced(self, task, first, last, steps):
        """Return a program with these steps in the place of those from first to ahead of last."""
        plan = self.plans[task][:first] + steps + self.plans[task][last:]
        return Program(self.plans[:task] + (plan,) + self.plans[task + 1:], self.rooms)
