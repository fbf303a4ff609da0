"""Papers: they show the profile of a program, and can be checked."""

from whatiftimes.cuts import run_behind
from whatiftimes.fractions import is_fraction, order_of
from whatiftimes.names import require_name
from whatiftimes.ranges import require_range
from whatiftimes.regimes import regimes
from whatiftimes.runs import run
from whatiftimes.same import is_same
from whatiftimes.shapes import Shape


def make_paper(program, setting, part, low, high=None):
    """Return a paper for a range all of whose tuples are right."""
    return regimes(program, setting, part, low, high)


def check_paper(program, setting, part, low, high, value):
    """Return None if any value is a right paper for the range, otherwise the index of what is wrong first."""
    require_name(part)
    require_range(low, high)
    if not isinstance(value, list):
        return 0
    x = low
    for index, row in enumerate(value):
        if is_at_end(x, high, index):
            return index
        if index % 2 == 0:
            right = is_right_point(program, setting, part, x, row)
        else:
            right = is_gap_from(row, x, high) and is_right_gap(program, setting, part, row)
        if not right:
            return index
        x = row[2] if index % 2 == 1 else x
    return None if is_at_end(x, high, len(value)) else len(value)


def is_at_end(x, high, index):
    """Tell whether the range is at its end ahead of this index; x is the last point so far, None if there is no end."""
    # A point is ahead of each odd index, a piece between points ahead of each even one but 0.
    return x is None or index % 2 == 1 and x == high


def is_right_point(program, setting, part, x, row):
    """Tell whether any value is the right tuple for the point x."""
    journal, waiting, total = run(program, setting, part, x)
    return is_same(row, ("at", x, journal, waiting))


def is_gap_from(row, x, high):
    """Tell whether any value is a tuple for slownesses behind x that does not go beyond high."""
    if not isinstance(row, tuple) or len(row) != 5 or not is_same(row[:2], ("between", x)):
        return False
    if row[2] is None:
        return high is None
    return is_fraction(row[2]) and order_of(x, row[2]) < 0 and (high is None or order_of(row[2], high) <= 0)


def is_right_gap(program, setting, part, row):
    """Tell whether a tuple for the slownesses between two points is right."""
    state, cut = run_behind(program, setting, part, row[1], False)
    # The runs between the points make the same choices only if no cut lies there.
    if cut is not None and (row[2] is None or order_of(cut, row[2]) < 0):
        return False
    return is_same(row[3], state.entries) and is_same(row[4], state.waiting())


def read_paper(paper):
    """Return the shape of the totals that a paper whose tuples are right shows."""
    return Shape([(*row[:-2], shown_total(row[-2], row[-1])) for row in paper])


def shown_total(journal, waiting):
    """Return the total that a journal shows, None if tasks wait."""
    return journal[-1][3] if len(waiting) == 0 else None
