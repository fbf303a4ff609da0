"""The bench: programs that are kept by name, with a history of all edits."""

from whatiftimes.errors import InvalidProgram, LimitExceeded, NothingToUndo, UnknownName
from whatiftimes.names import require_name
from whatiftimes.programs import Program

MOST_NAMES = 12


def require_program(value):
    """Raise InvalidProgram unless any value is a program."""
    if not isinstance(value, Program):
        raise InvalidProgram(None)


class Bench:
    """Programs by name, and what was kept ahead of each edit."""

    def __init__(self):
        # Neither the dict nor the list is ever changed, only exchanged, so benches may share them.
        self.shelf = {}
        self.past = []

    def __len__(self):
        return len(self.past)

    def __eq__(self, other):
        return isinstance(other, Bench) and self.shelf == other.shelf

    def names(self):
        """Return the names, in ascending order."""
        return sorted(self.shelf)

    def kept(self, name):
        """Return the program that is kept under a name."""
        # Only texts are looked up: other values may not be fit to be keys.
        if not isinstance(name, str) or name not in self.shelf:
            raise UnknownName(name)
        return self.shelf[name]

    def store(self, name, program):
        """Keep a program under a name."""
        require_name(name)
        require_program(program)
        if name not in self.shelf and len(self.shelf) == MOST_NAMES:
            raise LimitExceeded(MOST_NAMES)
        self.exchange({**self.shelf, name: program})

    def drop(self, name):
        """Keep the program under a name no longer."""
        self.kept(name)
        self.exchange({other: self.shelf[other] for other in self.shelf if other != name})

    def edit(self, name, change):
        """Replace a program by what a function returns for it, and return that."""
        program = change(self.kept(name))
        require_program(program)
        self.exchange({**self.shelf, name: program})
        return program

    def exchange(self, shelf):
        """Keep these programs from now on, as one edit."""
        self.past = [*self.past, self.shelf]
        self.shelf = shelf

    def undo(self):
        """Take back the last edit that was not taken back."""
        if len(self.past) == 0:
            raise NothingToUndo("edits")
        self.shelf = self.past[-1]
        self.past = self.past[:-1]

    def copy(self):
        """Return an independent bench with the same history."""
        twin = Bench()
        twin.shelf = self.shelf
        twin.past = self.past
        return twin

    def attempt(self, visitor):
        """Return what a function returns for the bench, which is as before afterwards."""
        shelf, past = self.shelf, self.past
        try:
            return visitor(self)
        finally:
            self.shelf, self.past = shelf, past
