"""Where the values of pieces are least, and where they jump down."""

from whatiftimes.fractions import compared
from whatiftimes.pieces import value_or_none


def least_place(pieces):
    """Return the tuple (time, x, side) of the least time that is taken or approached, or None."""
    if falls_without_end(pieces[-1]):
        return None
    best = None
    # The places come in the order in which they go ahead of one another, so only a lesser time is better.
    for place in places_of(pieces):
        if place[0] is not None and (best is None or compared(place[0], best[0]) < 0):
            best = place
    return best


def falls_without_end(piece):
    """Tell whether the values of a piece become less than any number."""
    return piece[0] == "between" and piece[2] is None and piece[3] is not None and piece[3][0] < 0


def places_of(pieces):
    """Return the tuples (time, x, side) of all points and sides, in ascending order of x, at the point first."""
    rows = []
    for x, before, time, after in points_with_sides(pieces):
        rows.extend([(time, x, "at"), (before, x, "before"), (after, x, "after")])
    return rows


def points_with_sides(pieces):
    """Return the tuples (x, before, at, after) of all points; None stands for what is not there."""
    rows = []
    for index in range(0, len(pieces), 2):
        x = pieces[index][1]
        before = value_or_none(pieces[index - 1][3], x) if index > 0 else None
        after = value_or_none(pieces[index + 1][3], x) if index + 1 < len(pieces) else None
        rows.append((x, before, pieces[index][2], after))
    return rows


def is_jump_down(before, time, after):
    """Tell whether values fall at a point, or over it where there is no time at it."""
    if time is None:
        return is_drop(before, after)
    return is_drop(before, time) or is_drop(time, after)


def is_drop(one, other):
    """Tell whether the first time is greater than the second one; None tells nothing."""
    return one is not None and other is not None and compared(one, other) > 0
