"""Fractions: tuples (number, divisor) of integers without a common divisor, the divisor from 1."""

from whatiftimes.errors import InvalidNumber
from whatiftimes.integers import common_divisor, is_whole, is_whole_pair, sign_of


def is_fraction(value):
    """Tell whether any value is a fraction."""
    return is_whole_pair(value) and value[1] >= 1 and common_divisor(value[0], value[1]) == 1


def require_fraction(value):
    """Raise InvalidNumber unless any value is a fraction."""
    if not is_fraction(value):
        raise InvalidNumber(value)


def is_slowness(value):
    """Tell whether any value is a fraction that is not negative."""
    return is_fraction(value) and value[0] >= 0


def require_slowness(value):
    """Raise InvalidNumber unless any value is a slowness."""
    if not is_slowness(value):
        raise InvalidNumber(value)


def fraction(number, divisor):
    """Return the fraction that stands for the quotient of two integers."""
    if not is_whole(number):
        raise InvalidNumber(number)
    if not is_whole(divisor) or divisor == 0:
        raise InvalidNumber(divisor)
    common = common_divisor(number, divisor)
    # Dividing by a negative common divisor makes the divisor of the result positive.
    if divisor < 0:
        common = -common
    return (number // common, divisor // common)


def compared(one, other):
    """Return -1, 0 or 1, as the first fraction is less than, equal to or greater than the second one."""
    require_fraction(one)
    require_fraction(other)
    return order_of(one, other)


def order_of(one, other):
    """Return what compared returns, for two values that are known to be fractions."""
    return sign_of(one[0] * other[1] - other[0] * one[1])


def total_of(some):
    """Return the sum of a list of fractions."""
    if not isinstance(some, list):
        raise InvalidNumber(some)
    total = (0, 1)
    for each in some:
        require_fraction(each)
        total = sum_of_two(total, each)
    return total


def sum_of_two(total, each):
    """Return the sum of two fractions."""
    # What the sum can be reduced by divides the common divisor of both divisors. So a long total is
    # reduced by short numbers only, as long as what is added is short.
    common = common_divisor(total[1], each[1])
    number = total[0] * (each[1] // common) + each[0] * (total[1] // common)
    reduced = common_divisor(number, common)
    return (number // reduced, total[1] // common * (each[1] // reduced))


def middle(low, high):
    """Return the fraction halfway between two fractions."""
    require_fraction(low)
    require_fraction(high)
    return fraction(low[0] * high[1] + high[0] * low[1], 2 * low[1] * high[1])
