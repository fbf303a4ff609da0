"""Lists of pieces: the tuples (at, x, time) and (between, x, y, line) that follow one another in a shape.

Points stand at the even indexes of such a list, what lies between them at the odd ones.
"""

from whatiftimes.fractions import is_fraction, is_slowness, order_of
from whatiftimes.lines import is_line, value_at


def are_pieces(value):
    """Tell whether any value is a list of pieces of a shape."""
    if not isinstance(value, list) or len(value) == 0:
        return False
    if not is_point(value[0]) or not is_slowness(value[0][1]):
        return False
    for index in range(1, len(value)):
        if not follows(value[index], value[index - 1], index):
            return False
    # A list that ends with a piece between points has no end.
    return len(value) % 2 == 1 or value[-1][2] is None


def follows(piece, last, index):
    """Tell whether any value can stand at this index of a list of pieces, behind the last one."""
    if index % 2 == 1:
        return is_gap(piece, last[1])
    return is_point(piece) and piece[1] == last[2]


def is_point(value):
    """Tell whether any value is a tuple (at, x, time)."""
    if not is_tuple_of(value, "at", 3) or not is_fraction(value[1]):
        return False
    return value[2] is None or is_fraction(value[2])


def is_gap(value, low):
    """Tell whether any value is a tuple (between, low, y, line) with y greater than low, or None."""
    if not is_tuple_of(value, "between", 4) or not is_fraction(value[1]) or value[1] != low:
        return False
    if value[2] is not None and (not is_fraction(value[2]) or order_of(low, value[2]) >= 0):
        return False
    return value[3] is None or is_line(value[3])


def is_tuple_of(value, word, size):
    """Tell whether any value is a tuple of this size that begins with this word."""
    if not isinstance(value, tuple) or len(value) != size:
        return False
    return isinstance(value[0], str) and value[0] == word


def shortest(pieces):
    """Return the pieces without needless points."""
    rows = []
    for piece in pieces:
        if len(rows) > 1 and piece[0] == "between" and is_needless(rows[-2], rows[-1], piece):
            rows.pop()
            left = rows.pop()
            rows.append(("between", left[1], piece[2], piece[3]))
        else:
            rows.append(piece)
    return rows


def is_needless(left, point, right):
    """Tell whether the point between two pieces is needless."""
    if left[3] != right[3]:
        return False
    if left[3] is None or point[2] is None:
        return left[3] is None and point[2] is None
    return value_at(left[3], point[1]) == point[2]


def high_of(pieces):
    """Return the end of the range of pieces, None if they have none."""
    return pieces[-1][1] if pieces[-1][0] == "at" else None


def points_of(pieces):
    """Return the points of pieces, in ascending order."""
    return [piece[1] for piece in pieces if piece[0] == "at"]


def index_of(pieces, x):
    """Return the index of the piece that x, a slowness of the range, lies in."""
    first, last = 0, (len(pieces) - 1) // 2
    while first < last:
        half = (first + last + 1) // 2
        if order_of(pieces[2 * half][1], x) <= 0:
            first = half
        else:
            last = half - 1
    return 2 * first if pieces[2 * first][1] == x else 2 * first + 1


def time_at(pieces, x):
    """Return the time at x, or None."""
    piece = pieces[index_of(pieces, x)]
    return piece[2] if piece[0] == "at" else value_or_none(piece[3], x)


def value_or_none(line, x):
    """Return the value of a line at x, None for None."""
    return None if line is None else value_at(line, x)


def line_before(pieces, x):
    """Return the line of the piece that ends at x or has x in it, or None; x is not the first point."""
    index = index_of(pieces, x)
    return pieces[index - 1][3] if index % 2 == 0 else pieces[index][3]


def line_after(pieces, x):
    """Return the line of the piece that begins at x or has x in it, or None; x is not the last point."""
    index = index_of(pieces, x)
    return pieces[index + 1][3] if index % 2 == 0 else pieces[index][3]
