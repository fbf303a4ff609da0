"""Edits: what a change of a program makes different, and how parts are made faster best."""

from whatiftimes.cuts import slowness_beside
from whatiftimes.engine import finished_state
from whatiftimes.errors import InvalidSetting
from whatiftimes.integers import is_whole
from whatiftimes.names import is_name
from whatiftimes.regimes import profile
from whatiftimes.runs import run

MOST_PARTS = 4
MOST_COST = 9
MOST_BUDGET = 12


def first_difference(one, other, setting, part, x):
    """Return the index of the first entry at which the journals of two programs differ, None if they are equal."""
    first = run(one, setting, part, x)[0]
    second = run(other, setting, part, x)[0]
    for index, (entry, other_entry) in enumerate(zip(first, second)):
        if entry != other_entry:
            return index
    return None if len(first) == len(second) else min(len(first), len(second))


def gain(one, other, setting, part, low, high=None):
    """Return the shape of the total of the first program minus that of the second one."""
    return profile(one, setting, part, low, high) - profile(other, setting, part, low, high)


def slopes(program, setting):
    """Return the tuples (part, time, left, right) of the total and the slopes beside it, one for each part."""
    rows = []
    for part in program.parts():
        x = (setting.slowness(part), 1)
        time = finished_state(program, setting, part, x).told_total()
        left = None if x[0] == 0 else slope_beside(program, setting, part, x, -1)
        rows.append((part, time, left, slope_beside(program, setting, part, x, 1)))
    return rows


def slope_beside(program, setting, part, x, side):
    """Return the slope of the total directly behind x (side 1) or ahead of it (side -1), None if the run is stuck."""
    total = finished_state(program, setting, part, slowness_beside(program, part, x, side)).total()
    return None if total is None else total[0]


def are_costs(value):
    """Tell whether any value is a dict from a few names to costs."""
    if not isinstance(value, dict) or len(value) > MOST_PARTS:
        return False
    return all([is_name(part) and is_within(cost, 1, MOST_COST) for part, cost in value.items()])


def is_within(value, least, most):
    """Tell whether any value is an integer from least to most."""
    return is_whole(value) and least <= value <= most


def best_setting(program, setting, costs, budget):
    """Return the tuple (total, setting) of the least total within a budget, and of the setting that costs least."""
    if not are_costs(costs):
        raise InvalidSetting(costs)
    if not is_within(budget, 0, MOST_BUDGET):
        raise InvalidSetting(budget)
    parts = sorted(costs)
    rows = []
    for cost, paces in lowerings(program, setting, costs, budget):
        total = total_with(program, setting_with(setting, parts, paces))
        if total is not None:
            # All slownesses are integers here, so the number alone tells the total.
            rows.append((total[0], cost, paces))
    if len(rows) == 0:
        return (None, setting)
    best = min(rows)
    return ((best[0], 1), setting_with(setting, parts, best[2]))


def lowerings(program, setting, costs, budget):
    """Return the tuples (cost, slownesses) of all that the budget allows, in ascending order of the parts of costs."""
    useful = program.parts()
    rows = [(0, [])]
    for part in sorted(costs):
        pace = setting.slowness(part)
        # To lower the slowness of a part that does not occur costs something and changes nothing.
        most = pace if part in useful else 0
        rows = [
            (cost + less * costs[part], [*paces, pace - less])
            for cost, paces in rows
            for less in range(min(most, (budget - cost) // costs[part]) + 1)
        ]
    return rows


def setting_with(setting, parts, paces):
    """Return a setting with these slownesses of these parts."""
    for part, pace in zip(parts, paces):
        setting = setting.with_slowness(part, pace)
    return setting


def total_with(program, setting):
    """Return the total of a program with a setting alone, None if the run is stuck."""
    # A run needs a part; any one does that keeps the slowness it has.
    return finished_state(program, setting, "a", (setting.slowness("a"), 1)).told_total()
