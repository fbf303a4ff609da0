"""What comes of the pieces of one or two shapes: sums, greater values, signs."""

from whatiftimes.fractions import compared, order_of, total_of
from whatiftimes.lines import meeting, order_within
from whatiftimes.pieces import high_of, line_after, points_of, time_at

ZERO_TIME = (0, 1)
ZERO_LINE = (0, 0)


def flat_pieces(low, high, time):
    """Return the pieces of the same time everywhere, a time with divisor 1, or None."""
    line = None if time is None else (0, time[0])
    rows = [("at", low, time)]
    if high != low:
        rows.append(("between", low, high, line))
        if high is not None:
            rows.append(("at", high, time))
    return rows


def negated(pieces):
    """Return the pieces with all values negated."""
    return [(*piece[:-1], negated_pair(piece)) for piece in pieces]


def negated_pair(piece):
    """Return the negative of the time or line of a piece, None for None."""
    pair = piece[-1]
    if pair is None:
        return None
    # The divisor of a fraction stays positive; of a line both numbers change their sign.
    return (-pair[0], pair[1]) if piece[0] == "at" else (-pair[0], -pair[1])


def sums(one, other):
    """Return pieces of the sum of two lists of pieces with the same range."""
    rows = []
    for piece in paired(one, other, merged(points_of(one), points_of(other))):
        rows.append((*piece[:-2], pair_sum(piece)))
    return rows


def pair_sum(piece):
    """Return the sum of the two times or lines at the end of a piece, None if one of them is None."""
    one, other = piece[-2], piece[-1]
    if one is None or other is None:
        return None
    return total_of([one, other]) if piece[0] == "at" else (one[0] + other[0], one[1] + other[1])


def greater(one, other):
    """Return pieces of the greater value of two lists of pieces with the same range."""
    rows = []
    for piece in paired(one, other, points_with_meetings(one, other)):
        rows.append((*piece[:-2], pair_maximum(piece)))
    return rows


def pair_maximum(piece):
    """Return the greater one of the two times or lines at the end of a piece, None if one of them is None."""
    one, other = piece[-2], piece[-1]
    if one is None or other is None:
        return None
    if piece[0] == "at":
        return one if compared(one, other) >= 0 else other
    return one if order_within(one, other, piece[1], piece[2]) >= 0 else other


def paired(one, other, points):
    """Return tuples like pieces with these points, each with the times or lines of both lists."""
    rows = []
    ends = [*points[1:], None]
    for x, y in zip(points, ends):
        rows.append(("at", x, time_at(one, x), time_at(other, x)))
        if y is not None or high_of(one) is None:
            rows.append(("between", x, y, line_after(one, x), line_after(other, x)))
    return rows


def merged(one, other):
    """Return all points of two ascending lists, in ascending order, each once."""
    points = []
    first = 0
    second = 0
    while first < len(one) or second < len(other):
        order = next_order(one, other, first, second)
        points.append(one[first] if order <= 0 else other[second])
        if order <= 0:
            first += 1
        if order >= 0:
            second += 1
    return points


def next_order(one, other, first, second):
    """Return -1, 0 or 1, as the next point of two lists stands in the first one, in both, or in the second one."""
    if first == len(one):
        return 1
    if second == len(other):
        return -1
    return order_of(one[first], other[second])


def points_with_meetings(one, other):
    """Return the points of two lists of pieces, and where their lines meet between these, in ascending order."""
    points = []
    for piece in paired(one, other, merged(points_of(one), points_of(other))):
        if piece[0] == "at":
            points.append(piece[1])
        elif meets_within(piece):
            points.append(meeting(piece[3], piece[4]))
    return points


def meets_within(piece):
    """Tell whether the two lines of a piece meet within it without being the same."""
    if piece[3] is None or piece[4] is None:
        return False
    return order_within(piece[3], piece[4], piece[1], piece[2]) is None


def sign_rows(pieces):
    """Return the tuples (at, x, sign) and (between, x, y, sign) of pieces, without needless points."""
    zero = flat_pieces(pieces[0][1], high_of(pieces), ZERO_TIME)
    rows = []
    for piece in paired(pieces, zero, points_with_meetings(pieces, zero)):
        row = (*piece[:-2], sign_of_piece(piece))
        # Where the last two rows have the sign of this one, the point among them is needless.
        if row[0] == "between" and len(rows) > 1 and rows[-2][3] == row[3] and rows[-1][2] == row[3]:
            rows.pop()
            left = rows.pop()
            rows.append(("between", left[1], row[2], row[3]))
        else:
            rows.append(row)
    return rows


def sign_of_piece(piece):
    """Return the sign of the time or line of a piece, None for None."""
    if piece[-2] is None:
        return None
    if piece[0] == "at":
        return compared(piece[-2], ZERO_TIME)
    return order_within(piece[-2], ZERO_LINE, piece[1], piece[2])
