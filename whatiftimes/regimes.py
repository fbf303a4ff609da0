"""Regimes: the stretches of a range in which runs make the same choices; profiles: the totals over a range."""

from whatiftimes.cuts import stretches
from whatiftimes.errors import LimitExceeded
from whatiftimes.names import require_name
from whatiftimes.ranges import require_range
from whatiftimes.shapes import Shape

MOST_REGIMES = 300


def regimes(program, setting, part, low, high=None):
    """Return the list of the regimes of a range, in order."""
    require_name(part)
    require_range(low, high)
    rows = []
    for stretch in stretches(program, setting, part, low, high, False):
        if len(rows) == MOST_REGIMES:
            raise LimitExceeded(MOST_REGIMES)
        rows.append(regime_of(stretch))
    return rows


def regime_of(stretch):
    """Return the regime of a stretch: its journal and its waiting tasks in the place of its state."""
    state = stretch[-1]
    journal = state.journal() if stretch[0] == "at" else list(state.entries)
    return (*stretch[:-1], journal, state.waiting())


def profile(program, setting, part, low, high=None):
    """Return the shape of the total over a range."""
    require_name(part)
    require_range(low, high)
    return Shape([piece_of(stretch) for stretch in stretches(program, setting, part, low, high, True)])


def piece_of(stretch):
    """Return the piece of a stretch: its total in the place of its state."""
    state = stretch[-1]
    total = state.told_total() if stretch[0] == "at" else state.total()
    return (*stretch[:-1], total)
