"""Whether two values are the same, kinds included."""

from whatiftimes.integers import is_whole


def is_same(value, wanted):
    """Tell whether any value is the wanted one, of integers, texts, and tuples and lists of such."""
    # Python's == alone does not do: it takes True for 1.
    if isinstance(wanted, tuple):
        return isinstance(value, tuple) and are_same(value, wanted)
    if isinstance(wanted, list):
        return isinstance(value, list) and are_same(value, wanted)
    if is_whole(wanted):
        return is_whole(value) and value == wanted
    return isinstance(value, str) and value == wanted


def are_same(values, wanted):
    """Tell whether two tuples or lists have the same values in the same order."""
    if len(values) != len(wanted):
        return False
    for value, other in zip(values, wanted):
        if not is_same(value, other):
            return False
    return True
