"""Ranges of slownesses: from low to high, or from low on if high is None."""

from whatiftimes.errors import InvalidRange
from whatiftimes.fractions import is_slowness, order_of


def require_range(low, high):
    """Raise InvalidRange unless two values of any kind are the ends of a range."""
    if not is_slowness(low) or not is_end(high, low):
        raise InvalidRange((low, high))


def is_end(high, low):
    """Tell whether any value can be the end of a range that begins with low."""
    return high is None or is_slowness(high) and order_of(low, high) <= 0
