"""Sightings: what was seen of a run, and the slownesses at which runs show it."""

from whatiftimes.combined import merged
from whatiftimes.cuts import stretches
from whatiftimes.engine import finished_state
from whatiftimes.errors import InvalidSighting
from whatiftimes.fractions import fraction, is_fraction, middle, order_of, require_slowness
from whatiftimes.names import require_name
from whatiftimes.programs import is_index
from whatiftimes.ranges import require_range
from whatiftimes.views import lines_view, shows_all, times_view, turns_of

# What stands behind the first word of a sighting; each step is one of the task ahead of it.
FORMS = {
    "done": ("task", "step", "time"),
    "asked": ("task", "step", "time"),
    "within": ("task", "step", "time", "time"),
    "ahead": ("task", "step", "task", "step"),
    "never": ("task", "step"),
    "total": ("time",),
    "stuck": (),
}


def is_sighting(program, value):
    """Tell whether any value is a sighting of runs of a program."""
    if not isinstance(value, tuple) or len(value) == 0 or not isinstance(value[0], str):
        return False
    form = FORMS.get(value[0])
    if form is None or len(value) != len(form) + 1:
        return False
    for at, kind in enumerate(form, start=1):
        if not is_item(program, kind, value[at], value[at - 1]):
            return False
    return True


def is_item(program, kind, item, former):
    """Tell whether any value may stand in a sighting where this kind is wanted, behind the former item."""
    if kind == "time":
        return is_fraction(item)
    if kind == "task":
        return is_index(item, len(program))
    # The number of steps stands for the end of the task.
    return is_index(item, len(program.tasks[former]) + 1)


def require_sightings(program, sightings):
    """Raise InvalidSighting unless any value is a list of sightings."""
    if not isinstance(sightings, list):
        raise InvalidSighting(None)
    for index, sighting in enumerate(sightings):
        if not is_sighting(program, sighting):
            raise InvalidSighting(index)


def is_shown(program, setting, part, x, sighting):
    """Tell whether the run at x shows a sighting."""
    require_name(part)
    require_slowness(x)
    require_sightings(program, [sighting])
    return shows_all(times_view(finished_state(program, setting, part, x)), [sighting])


def places(program, setting, part, low, high, sightings):
    """Return the slownesses of a range whose runs show all sightings, as tuples (at, x) and (between, x, y)."""
    require_name(part)
    require_range(low, high)
    require_sightings(program, sightings)
    found = []
    # The order of works changes no times, so it matters to sightings of orders alone; where these change within a
    # stretch is found from its lines.
    for stretch in stretches(program, setting, part, low, high, True):
        if stretch[0] == "at":
            if shows_all(times_view(stretch[2]), sightings):
                found.append(stretch[:2])
        else:
            for row in finer_rows(stretch, sightings):
                state = finished_state(program, setting, part, slowness_in(row))
                if shows_all(times_view(state), sightings):
                    add_place(found, row)
    return found


def finer_rows(stretch, sightings):
    """Return the tuples (between, x, y) and (at, x) within a stretch such that each shows a sighting as a whole."""
    low, high, state = stretch[1], stretch[2], stretch[3]
    points = [x for x in turns_of(lines_view(state), sightings) if is_strictly_within(x, low, high)]
    rows = []
    for x in ascending(points):
        rows.extend([("between", low, x), ("at", x)])
        low = x
    rows.append(("between", low, high))
    return rows


def is_strictly_within(x, low, high):
    """Tell whether x lies strictly between low and high, which may be None."""
    return order_of(low, x) < 0 and (high is None or order_of(x, high) < 0)


def ascending(points):
    """Return the fractions of a list in ascending order, each once."""
    if len(points) < 2:
        return points
    half = len(points) // 2
    return merged(ascending(points[:half]), ascending(points[half:]))


def slowness_in(row):
    """Return a slowness of a tuple (at, x) or (between, x, y)."""
    if row[0] == "at":
        return row[1]
    return fraction(row[1][0] + row[1][1], row[1][1]) if row[2] is None else middle(row[1], row[2])


def add_place(found, row):
    """Add a tuple to those that were found; one between others that are there makes a single one of them."""
    # Where the last but one ends at the beginning of this one, the last one is the point between them.
    if len(found) > 1 and found[-2][-1] == row[1]:
        found.pop()
        left = found.pop()
        found.append(("between", left[1], row[2]))
    else:
        found.append(row)
