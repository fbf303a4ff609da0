"""Shapes: a time, or None, for every slowness of a range."""

from whatiftimes.combined import flat_pieces, greater, negated, sign_rows, sums
from whatiftimes.errors import InvalidNumber, InvalidShape
from whatiftimes.extremes import is_jump_down, least_place, points_with_sides
from whatiftimes.fractions import is_fraction, is_slowness, order_of
from whatiftimes.pieces import (
    are_pieces, high_of, line_after, line_before, shortest, time_at, value_or_none,
)
from whatiftimes.ranges import require_range


class Shape:
    """A time, or None, for every slowness of a range; it never changes."""

    def __init__(self, pieces):
        if not are_pieces(pieces):
            raise InvalidShape(pieces)
        self.rows = shortest(pieces)

    def pieces(self):
        """Return the shortest pieces."""
        return list(self.rows)

    def __len__(self):
        return len(self.rows)

    def __eq__(self, other):
        return isinstance(other, Shape) and self.rows == other.rows

    @property
    def low(self):
        """The least slowness of the range."""
        return self.rows[0][1]

    @property
    def high(self):
        """The greatest slowness of the range, None if there is none."""
        return high_of(self.rows)

    def __call__(self, x):
        self.require_inside(x)
        return time_at(self.rows, x)

    def before(self, x):
        """Return the value at x of the line directly ahead of x, or None."""
        self.require_inside(x)
        if x == self.low:
            raise InvalidNumber(x)
        return value_or_none(line_before(self.rows, x), x)

    def after(self, x):
        """Return the value at x of the line directly behind x, or None."""
        self.require_inside(x)
        if x == self.high:
            raise InvalidNumber(x)
        return value_or_none(line_after(self.rows, x), x)

    def __add__(self, other):
        self.require_same_range(other)
        return Shape(sums(self.rows, other.rows))

    def __sub__(self, other):
        self.require_same_range(other)
        return Shape(sums(self.rows, negated(other.rows)))

    def __or__(self, other):
        self.require_same_range(other)
        return Shape(greater(self.rows, other.rows))

    def __and__(self, other):
        self.require_same_range(other)
        # The lesser one of two values is the negative of the greater one of their negatives.
        return Shape(negated(greater(negated(self.rows), negated(other.rows))))

    def signs(self):
        """Return the signs of the values, as tuples like pieces, without needless points."""
        return sign_rows(self.rows)

    def least(self):
        """Return the tuple (time, x, side) of the least time that is taken or approached, or None."""
        return least_place(self.rows)

    def falls(self):
        """Return the tuples (x, before, at, after) of the points at which the shape jumps down."""
        return [row for row in points_with_sides(self.rows) if is_jump_down(row[1], row[2], row[3])]

    def require_inside(self, x):
        """Raise InvalidNumber unless any value is a slowness of the range."""
        if not is_slowness(x) or order_of(x, self.low) < 0:
            raise InvalidNumber(x)
        if self.high is not None and order_of(x, self.high) > 0:
            raise InvalidNumber(x)

    def require_same_range(self, other):
        """Raise InvalidShape unless any value is a shape of the same range."""
        if not isinstance(other, Shape) or self.low != other.low or self.high != other.high:
            raise InvalidShape(other)


def flat(low, high, time):
    """Return the shape with the same time everywhere, a fraction with divisor 1, or None."""
    require_range(low, high)
    if time is not None and (not is_fraction(time) or time[1] != 1):
        raise InvalidNumber(time)
    return Shape(flat_pieces(low, high, time))
