"""Views: what a run shows of sightings, at one slowness, or over a stretch in which all its times are lines."""

from whatiftimes.fractions import fraction, order_of
from whatiftimes.lines import meeting


class View:
    """The entries and the total of a run that is over, with times or with lines."""

    def __init__(self, plans, entries, outcome):
        self.plans = plans
        self.entries = entries
        self.outcome = outcome
        self.spots = {(entry[0], entry[1]): index for index, entry in enumerate(entries)}

    def entry_of(self, task, step):
        """Return the entry of a step, None if there is none."""
        index = self.spots.get((task, step))
        return None if index is None else self.entries[index]

    def moment_of(self, entry):
        """Return when an entry was made: a work is entered when it begins."""
        steps, at = self.plans[entry[0]], entry[1]
        return entry[2] if at < len(steps) and steps[at][0] == "work" else entry[3]


def times_view(state):
    """Return the view of a run that is over, with its times."""
    return View(state.plans, state.journal(), state.told_total())


def lines_view(state):
    """Return the view of a run that is over, with lines in the place of times."""
    return View(state.plans, state.entries, state.total())


def shows_done(view, task, step, time):
    """Tell whether a step is done at this time."""
    entry = view.entry_of(task, step)
    return entry is not None and entry[3] == time


def shows_asked(view, task, step, time):
    """Tell whether a step is asked at this time."""
    entry = view.entry_of(task, step)
    return entry is not None and entry[2] == time


def shows_within(view, task, step, early, late):
    """Tell whether a step is done at a time from early to late."""
    entry = view.entry_of(task, step)
    return entry is not None and order_of(early, entry[3]) <= 0 and order_of(entry[3], late) <= 0


def shows_ahead(view, task, step, other, index):
    """Tell whether the entry of one step stands ahead of that of another one."""
    first = view.spots.get((task, step))
    second = view.spots.get((other, index))
    return first is not None and second is not None and first < second


def shows_never(view, task, step):
    """Tell whether there is no entry of a step."""
    return view.entry_of(task, step) is None


def shows_total(view, time):
    """Tell whether the total is this time."""
    return view.outcome == time


def shows_stuck(view):
    """Tell whether the run is stuck."""
    return view.outcome is None


TESTS = {
    "done": shows_done,
    "asked": shows_asked,
    "within": shows_within,
    "ahead": shows_ahead,
    "never": shows_never,
    "total": shows_total,
    "stuck": shows_stuck,
}


def shows_all(view, sightings):
    """Tell whether a view with times shows all sightings."""
    for word, *items in sightings:
        test = TESTS[word]
        if not test(view, *items):
            return False
    return True


def where(line, time):
    """Return the x at which a line has the value of a time, None if its slope is 0."""
    return None if line[0] == 0 else fraction(time[0] - line[1] * time[1], line[0] * time[1])


def turns_done(view, task, step, time):
    """Return where a step begins or ceases to be done at this time."""
    entry = view.entry_of(task, step)
    return [] if entry is None else [where(entry[3], time)]


def turns_asked(view, task, step, time):
    """Return where a step begins or ceases to be asked at this time."""
    entry = view.entry_of(task, step)
    return [] if entry is None else [where(entry[2], time)]


def turns_within(view, task, step, early, late):
    """Return where a step begins or ceases to be done within these times."""
    entry = view.entry_of(task, step)
    return [] if entry is None else [where(entry[3], early), where(entry[3], late)]


def turns_ahead(view, task, step, other, index):
    """Return where the order of two entries changes."""
    first = view.entry_of(task, step)
    second = view.entry_of(other, index)
    if first is None or second is None:
        return []
    return [meeting(view.moment_of(first), view.moment_of(second))]


def turns_total(view, time):
    """Return where the total begins or ceases to be this time."""
    return [] if view.outcome is None else [where(view.outcome, time)]


def no_turns(view, *rest):
    """Over a stretch the same steps are done, so nothing else changes."""
    return []


TURNS = {
    "done": turns_done,
    "asked": turns_asked,
    "within": turns_within,
    "ahead": turns_ahead,
    "never": no_turns,
    "total": turns_total,
    "stuck": no_turns,
}


def turns_of(view, sightings):
    """Return all x, wherever they lie, at which a view with lines may begin or cease to show a sighting."""
    points = []
    for word, *items in sightings:
        turns = TURNS[word]
        points.extend([x for x in turns(view, *items) if x is not None])
    return points
