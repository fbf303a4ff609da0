"""Machines: runs that are made choice by choice, and can be stopped, copied, changed and tried out."""

from whatiftimes.engine import State, make_choice, run_to_end
from whatiftimes.errors import InvalidJournal, Stuck, TooLate
from whatiftimes.fractions import require_slowness
from whatiftimes.names import require_name
from whatiftimes.same import is_same


def is_settled(state, task, index):
    """Tell whether a task is behind this step, has left it out, waits for it, or has ended."""
    # A task that has ended is behind all its steps.
    return index < state.nexts[task] or index == state.nexts[task] and state.phases[task] == "waits"


def require_next(entries, journal, start):
    """Raise InvalidJournal unless these entries stand in any list from this index on."""
    for index, entry in enumerate(entries, start=start):
        if index == len(journal) or not is_same(journal[index], entry):
            raise InvalidJournal(index)


class Machine:
    """One run, and how far it has come."""

    def __init__(self, program, setting, part, x):
        require_name(part)
        require_slowness(x)
        self.state = State(program, setting, part, x)

    @classmethod
    def behind(cls, program, setting, part, x, journal):
        """Return a machine that has made as few choices as possible such that its entries are those of a list."""
        machine = cls(program, setting, part, x)
        if not isinstance(journal, list):
            raise InvalidJournal(None)
        while len(machine) < len(journal):
            start = len(machine)
            if machine.is_over:
                raise InvalidJournal(start)
            require_next(machine.choose(), journal, start)
        return machine

    @property
    def program(self):
        """The program with all changes."""
        return self.state.source

    @property
    def is_over(self):
        """Whether no task is ready."""
        return "ready" not in self.state.phases

    def __len__(self):
        return len(self.state.entries)

    def __eq__(self, other):
        return isinstance(other, Machine) and self.features() == other.features()

    def features(self):
        """Return all that makes a difference between machines."""
        state = self.state
        return [state.source, state.setting, state.part, state.x, self.journal(), self.ready(), self.waiting()]

    def ready(self):
        """Return the tuples (time, task) of the ready tasks, sorted by time, then by number."""
        state = self.state
        rows = [(state.scaled[task], task) for task, phase in enumerate(state.phases) if phase == "ready"]
        return [(state.time_of(state.times[task]), task) for scaled, task in sorted(rows)]

    def waiting(self):
        """Return the tuples (task, step) of the waiting tasks, in ascending order."""
        return self.state.waiting()

    def journal(self):
        """Return the entries so far."""
        return self.state.journal()

    def choose(self):
        """Make one choice, with all that follows at once, and return the new entries."""
        task = self.state.first_ready()
        if task is None:
            raise Stuck(self.waiting())
        start = len(self)
        make_choice(self.state, task)
        return [self.state.told(entry) for entry in self.state.entries[start:]]

    def finish(self):
        """Make all choices that are left, and return the total, None if the run is stuck."""
        run_to_end(self.state)
        return self.state.told_total()

    def change(self, task, index, step):
        """Replace a step that is not yet reached."""
        program = self.state.source.changed(task, index, step)
        if is_settled(self.state, task, index):
            raise TooLate((task, index))
        self.state.follow(program)

    def copy(self):
        """Return an independent machine in the same state."""
        twin = Machine(self.state.source, self.state.setting, self.state.part, self.state.x)
        twin.state = self.state.duplicate()
        return twin

    def attempt(self, visitor):
        """Return what a function returns for the machine, which is as before afterwards."""
        state = self.state
        self.state = state.duplicate()
        try:
            return visitor(self)
        finally:
            self.state = state
