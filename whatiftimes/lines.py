"""Lines: tuples (slope, base) of integers; the value of a line at x is slope * x + base."""

from whatiftimes.errors import InvalidNumber, InvalidRange
from whatiftimes.fractions import compared, fraction, require_fraction
from whatiftimes.integers import is_whole_pair, sign_of


def is_line(value):
    """Tell whether any value is a line."""
    return is_whole_pair(value)


def require_line(value):
    """Raise InvalidNumber unless any value is a line."""
    if not is_line(value):
        raise InvalidNumber(value)


def value_at(line, x):
    """Return the value of a line at x, as a fraction."""
    require_line(line)
    require_fraction(x)
    return fraction(line[0] * x[0] + line[1] * x[1], x[1])


def meeting(one, other):
    """Return the x at which two lines have the same value, None if their slopes are equal."""
    require_line(one)
    require_line(other)
    if one[0] == other[0]:
        return None
    return fraction(other[1] - one[1], one[0] - other[0])


def order_within(one, other, low, high):
    """Return how two lines compare at every x between low and high: -1, 0 or 1, None if it changes."""
    require_line(one)
    require_line(other)
    require_fraction(low)
    if high is not None:
        require_fraction(high)
        if compared(low, high) >= 0:
            raise InvalidRange((low, high))
    difference = (one[0] - other[0], one[1] - other[1])
    first = sign_at(difference, low)
    last = sign_towards(difference, high)
    # A difference of 0 at one end only says nothing about the inside: the other end decides.
    if first * last < 0:
        return None
    return sign_of(first + last)


def sign_at(line, x):
    """Return the sign of the value of a line at x."""
    return sign_of(value_at(line, x)[0])


def sign_towards(line, high):
    """Return the sign of a line at high; for None its sign at great x, 0 if the slope is 0."""
    if high is None:
        return sign_of(line[0])
    return sign_at(line, high)
