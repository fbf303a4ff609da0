"""The console: a bench that is used by commands."""

from whatiftimes.bench import Bench
from whatiftimes.commands import carry_out


class Console:
    """A bench, and the commands for it."""

    def __init__(self):
        self.desk = Bench()

    def bench(self):
        """Return a copy of the bench."""
        return self.desk.copy()

    def run(self, command):
        """Carry out a command, and return what it tells."""
        return carry_out(self.desk, command)
