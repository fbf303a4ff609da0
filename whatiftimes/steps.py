"""Steps: what the tasks of a program consist of."""

from whatiftimes.integers import is_whole
from whatiftimes.names import is_name

# What stands behind the first word of a step.
FORMS = {
    "work": ("name", "amount"),
    "take": ("name",),
    "give": ("name",),
    "put": ("name", "value"),
    "get": ("name",),
    "skip": ("value", "count"),
    "await": ("task",),
}

# The least and the greatest number of each kind; those of tasks depend on the program.
LIMITS = {"amount": (0, 10 ** 30), "value": (0, 9), "count": (1, 20)}

MOST_TASKS = 6
MOST_STEPS = 20


def is_step(value, tasks):
    """Tell whether any value is a step of a program with so many tasks."""
    if not isinstance(value, tuple) or len(value) == 0:
        return False
    form = form_of(value[0])
    if form is None or len(value) != len(form) + 1:
        return False
    return all([is_item(item, kind, tasks) for item, kind in zip(value[1:], form)])


def form_of(word):
    """Return what stands behind the first word of a step, None for any value that is no such word."""
    # Only texts are looked up: other values may not be fit to be keys.
    return FORMS.get(word) if isinstance(word, str) else None


def is_item(item, kind, tasks):
    """Tell whether any value may stand in a step where this kind is wanted."""
    if kind == "name":
        return is_name(item)
    low, high = LIMITS.get(kind, (0, tasks - 1))
    return is_whole(item) and low <= item <= high
