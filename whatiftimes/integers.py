"""Helpers over integers that the other modules share."""


def is_whole(value):
    """Tell whether any value is an integer."""
    # Python counts bools among the ints; here they are no integers.
    return isinstance(value, int) and not isinstance(value, bool)


def is_whole_pair(value):
    """Tell whether any value is a tuple of two integers."""
    if not isinstance(value, tuple) or len(value) != 2:
        return False
    return is_whole(value[0]) and is_whole(value[1])


def sign_of(number):
    """Return -1, 0 or 1, as an integer is less than, equal to or greater than 0."""
    if number < 0:
        return -1
    if number > 0:
        return 1
    return 0


def common_divisor(one, other):
    """Return the greatest common divisor of two integers, 0 if both are 0."""
    while other != 0:
        one, other = other, one % other
    return abs(one)
