"""Runs of programs, and the checker of their journals."""

from whatiftimes.engine import finished_state
from whatiftimes.fractions import require_slowness
from whatiftimes.names import require_name
from whatiftimes.same import is_same


def run(program, setting, part, x):
    """Return the tuple (journal, waiting, total) of the run at the slowness x of a part."""
    require_name(part)
    require_slowness(x)
    state = finished_state(program, setting, part, x)
    return (state.journal(), state.waiting(), state.told_total())


def events(program, setting, part, x):
    """Yield the entries of the journal of a run, one by one."""
    for entry in run(program, setting, part, x)[0]:
        yield entry


def check_journal(program, setting, part, x, value):
    """Return None if any value is the journal of the run, otherwise the index of what is wrong first."""
    journal = run(program, setting, part, x)[0]
    if not isinstance(value, list):
        return 0
    for index, entry in enumerate(value):
        if index == len(journal) or not is_same(entry, journal[index]):
            return index
    return None if len(value) == len(journal) else len(value)
