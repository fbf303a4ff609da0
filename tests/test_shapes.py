"""Tests of whatiftimes.shapes."""

import copy
import random
import unittest
from fractions import Fraction

from tests.reference import pair
from tests.values import NOT_SLOWNESSES, OTHER_VALUES, UNREDUCED
from whatiftimes.errors import InvalidNumber, InvalidRange, InvalidShape
from whatiftimes.shapes import Shape, flat

# A corner at 1, a jump at 2, nothing between 2 and 3, a single value at 3, then a falling line.
PIECES = [
    ("at", (0, 1), (1, 1)), ("between", (0, 1), (1, 1), (2, 1)), ("at", (1, 1), (3, 1)), ("between", (1, 1), (2, 1), (-1, 4)),
    ("at", (2, 1), (5, 2)), ("between", (2, 1), (3, 1), None), ("at", (3, 1), (-1, 3)), ("between", (3, 1), (5, 1), (-1, 4)),
    ("at", (5, 1), None),
]
ENDLESS = PIECES + [("between", (5, 1), None, (1, -7))]


def ramp(slope, base, low=(0, 1), high=None):
    """The shape of one line."""
    pieces = [("at", low, pair(slope * Fraction(*low) + base)), ("between", low, high, (slope, base))]
    if high is not None:
        pieces.append(("at", high, pair(slope * Fraction(*high) + base)))
    return Shape(pieces)


def value_of(pieces, x):
    """The value of pieces at one of Python's own fractions."""
    for piece in pieces:
        if piece[0] == "at" and Fraction(*piece[1]) == x:
            return None if piece[2] is None else Fraction(*piece[2])
        if piece[0] == "between" and Fraction(*piece[1]) < x and (piece[2] is None or x < Fraction(*piece[2])):
            return None if piece[3] is None else piece[3][0] * x + piece[3][1]
    raise AssertionError(x)


def points(pieces):
    return [Fraction(*piece[1]) for piece in pieces if piece[0] == "at"]


def zeros(one, other):
    """Where lines of two lists of pieces meet."""
    lines = [piece[3] for piece in one + other if piece[0] == "between" and piece[3] is not None] + [(0, 0)]
    return [Fraction(d - b, a - c) for a, b in lines for c, d in lines if a != c]


def places(one, other, high):
    """All points, all meetings of lines, and a place between each two of them and behind them."""
    low = points(one)[0]
    corners = sorted({x for x in points(one) + points(other) + zeros(one, other)
                      if x >= low and (high is None or x <= Fraction(*high))})
    out = corners + [(corners[at] + corners[at + 1]) / 2 for at in range(len(corners) - 1)]
    return out + ([corners[-1] + 1, corners[-1] + 10 ** 6] if high is None else [])


def some_pieces(source, low, high, many):
    """Pieces from low to high, with some None and with needless points."""
    inner = sorted({pair(Fraction(source.randint(1, 23), source.randint(1, 4))) for index in range(many)},
                   key=lambda x: Fraction(*x))
    inner = [x for x in inner if Fraction(*x) > Fraction(*low) and (high is None or Fraction(*x) < Fraction(*high))]
    ends = [low] + inner + [high]
    lines = [source.choice([None, (0, 1), (0, -2), (1, 0), (1, -3), (-1, 2), (2, -5), (-2, 5), (3, -1)]) for end in ends]
    out = []
    for index, x in enumerate(ends[:-1]):
        near = [line for line in lines[max(index - 1, 0):index + 1] if line is not None]
        values = [pair(line[0] * Fraction(*x) + line[1]) for line in near]
        out.append(("at", x, source.choice(values * 3 + [None, (1, 2), (0, 1)])))
        if x != high:
            out.append(("between", x, ends[index + 1], lines[index]))
    if high is not None and high != low:
        out.append(("at", high, source.choice([None, (0, 1), (-5, 3)])))
    return out


def some_shapes(many):
    """Pairs of lists of pieces of the same range."""
    for seed in range(many):
        source = random.Random(seed)
        low = source.choice([(0, 1), (1, 2), (3, 1)])
        high = source.choice([None, None, (5, 1), (23, 2), low])
        size = source.randint(0, 6)
        if low == high:
            yield tuple([("at", low, source.choice([None, (1, 1), (-2, 3), (0, 1)]))] for index in range(2))
        else:
            yield (some_pieces(source, low, high, size), some_pieces(source, low, high, source.randint(0, 6)))


class ShapeTest(unittest.TestCase):
    def assert_invalid(self, error, value, function, *values, **named):
        with self.assertRaises(error) as caught:
            function(*values, **named)
        self.assertIs(caught.exception.value, value)

    def assert_shortest(self, pieces):
        self.assertEqual(Shape(pieces).pieces(), pieces)
        for index in range(2, len(pieces) - 1, 2):
            left, x, time, right = pieces[index - 1][3], pieces[index][1], pieces[index][2], pieces[index + 1][3]
            if left == right:
                self.assertNotEqual(None if left is None else pair(left[0] * Fraction(*x) + left[1]), time)


class Made(ShapeTest):
    def test_example(self):
        one = Shape([("at", (0, 1), (0, 1)), ("between", (0, 1), None, (1, 0))])
        both = one | flat((0, 1), None, (2, 1))
        found = (both.pieces(), both((1, 2)), both.least(), (one + one)((3, 2)))
        self.assertEqual(found, (
            [("at", (0, 1), (2, 1)), ("between", (0, 1), (2, 1), (0, 2)), ("at", (2, 1), (2, 1)), ("between", (2, 1), None, (1, 0))],
            (2, 1), ((2, 1), (0, 1), "at"), (3, 1)))

    def test_shortest_ones_stay(self):
        for pieces in (PIECES, ENDLESS, PIECES[:1], PIECES[:3], ramp(2, 1).pieces()):
            shape = Shape(pieces)
            self.assertEqual((shape.pieces(), len(shape)), (pieces, len(pieces)))

    def test_needless_points(self):
        long = [("at", (0, 1), (1, 1)), ("between", (0, 1), (1, 2), (2, 1)), ("at", (1, 2), (2, 1)), ("between", (1, 2), (1, 1), (2, 1)),
                ("at", (1, 1), (3, 1)), ("between", (1, 1), (7, 3), (2, 1)), ("at", (7, 3), (17, 3)), ("between", (7, 3), None, (2, 1))]
        self.assertEqual(Shape(long).pieces(), [("at", (0, 1), (1, 1)), ("between", (0, 1), None, (2, 1))])
        self.assertEqual(len(Shape(long)), 2)
        closed = long[:-1]
        self.assertEqual(Shape(closed).pieces(), [("at", (0, 1), (1, 1)), ("between", (0, 1), (7, 3), (2, 1)), ("at", (7, 3), (17, 3))])

    def test_points_that_are_needed(self):
        for point in (("at", (1, 1), (4, 1)), ("at", (1, 1), None)):
            pieces = [("at", (0, 1), (1, 1)), ("between", (0, 1), (1, 1), (2, 1)), point, ("between", (1, 1), None, (2, 1))]
            self.assertEqual(Shape(pieces).pieces(), pieces)
        for left, right in (((2, 1), None), (None, (2, 1)), ((2, 1), (3, 0)), ((2, 1), (2, 2)), ((0, 3), (2, 1))):
            for time in ((3, 1), None, (0, 1)):
                pieces = [("at", (0, 1), None), ("between", (0, 1), (1, 1), left), ("at", (1, 1), time), ("between", (1, 1), None, right)]
                self.assertEqual(Shape(pieces).pieces(), pieces)

    def test_needless_points_of_none(self):
        long = [("at", (0, 1), None)]
        for x in range(5):
            long += [("between", (x, 1), (x + 1, 1), None), ("at", (x + 1, 1), None)]
        self.assertEqual(Shape(long).pieces(), [("at", (0, 1), None), ("between", (0, 1), (5, 1), None), ("at", (5, 1), None)])
        single = [piece if piece != ("at", (2, 1), None) else ("at", (2, 1), (0, 1)) for piece in long]
        self.assertEqual(len(Shape(single)), 5)

    def test_ends_are_never_needless(self):
        pieces = [("at", (1, 1), None), ("between", (1, 1), (2, 1), None), ("at", (2, 1), None)]
        self.assertEqual(Shape(pieces).pieces(), pieces)

    def test_shortest_of_all_kinds(self):
        for one, other in some_shapes(300):
            found = Shape(one).pieces()
            self.assert_shortest(found)
            for x in places(one, one, Shape(one).high):
                self.assertEqual(value_of(found, x), value_of(one, x))

    def test_low_and_high(self):
        self.assertEqual((Shape(PIECES).low, Shape(PIECES).high), ((0, 1), (5, 1)))
        self.assertEqual((Shape(ENDLESS).low, Shape(ENDLESS).high), ((0, 1), None))
        self.assertEqual((Shape(PIECES[2:3]).low, Shape(PIECES[2:3]).high), ((1, 1), (1, 1)))
        with self.assertRaises(AttributeError):
            Shape(PIECES).low = (1, 1)
        with self.assertRaises(AttributeError):
            Shape(PIECES).high = (1, 1)

    def test_copies(self):
        given = list(PIECES)
        shape = Shape(given)
        given[0] = "x"
        given.pop()
        self.assertEqual(shape.pieces(), PIECES)
        shape.pieces().clear()
        self.assertEqual(shape.pieces(), PIECES)
        self.assertIsNot(shape.pieces(), shape.pieces())

    def test_argument_stays(self):
        given = [("at", (0, 1), None), ("between", (0, 1), (1, 1), None), ("at", (1, 1), None), ("between", (1, 1), None, None)]
        before = copy.deepcopy(given)
        Shape(given)
        self.assertEqual(given, before)

    def test_by_name(self):
        self.assertEqual(Shape(pieces=PIECES), Shape(PIECES))


class Invalid(ShapeTest):
    def test_no_lists_of_pieces(self):
        for value in OTHER_VALUES + [tuple(PIECES), 0, "at", PIECES[0], [PIECES]]:
            with self.subTest(value=value):
                self.assert_invalid(InvalidShape, value, Shape, value)

    def test_left_out_and_put_in(self):
        for index in range(len(ENDLESS)):
            for value in (ENDLESS[:index] + ENDLESS[index + 1:], ENDLESS[:index + 1] + ENDLESS[index:],
                          ENDLESS[:index] + [None] + ENDLESS[index + 1:], ENDLESS[:index] + [list(ENDLESS[index])] + ENDLESS[index + 1:]):
                if value != PIECES:
                    with self.subTest(value=value):
                        self.assert_invalid(InvalidShape, value, Shape, value)

    def test_one_item_otherwise(self):
        others = (True, False, 0, 1, "", "at", "between", (), [], (1,), (1, 2, 3), [1, 2], (True, 1), (1, True), (1, 2.0), b"at", {})
        for index, piece in enumerate(ENDLESS):
            for at in range(len(piece)):
                for other in others + ((2, 4) if at != 3 else "x", None if at == 0 else "y"):
                    if other == piece[at] and type(other) is type(piece[at]) is str:
                        continue
                    value = ENDLESS[:index] + [piece[:at] + (other,) + piece[at + 1:]] + ENDLESS[index + 1:]
                    with self.subTest(value=value):
                        self.assert_invalid(InvalidShape, value, Shape, value)

    def test_unreduced_numbers(self):
        for number in UNREDUCED:
            for value in ([("at", number, None)], [("at", (0, 1), number)],
                          [("at", (0, 1), None), ("between", (0, 1), number, None), ("at", number, None)]):
                with self.subTest(value=value):
                    self.assert_invalid(InvalidShape, value, Shape, value)
            # A line need not be a fraction.
            Shape([("at", (0, 1), None), ("between", (0, 1), None, number)])

    def test_points(self):
        for low, high in (((1, 1), (1, 1)), ((2, 1), (1, 1)), ((1, 2), (1, 3)), ((1, 1), (0, 1)), ((1, 1), (-1, 1))):
            value = [("at", low, None), ("between", low, high, None), ("at", high, None)]
            self.assert_invalid(InvalidShape, value, Shape, value)
        for low in ((-1, 1), (-1, 2)):
            for value in ([("at", low, None)], [("at", low, None), ("between", low, None, None)]):
                self.assert_invalid(InvalidShape, value, Shape, value)

    def test_does_not_follow(self):
        for value in (
                [("at", (0, 1), None), ("between", (1, 1), (2, 1), None), ("at", (2, 1), None)],
                [("at", (0, 1), None), ("between", (0, 1), (2, 1), None), ("at", (1, 1), None)],
                [("at", (0, 1), None), ("between", (0, 1), (2, 1), None), ("at", (3, 1), None)],
                [("at", (0, 1), None), ("between", (0, 1), (2, 1), None)],
                [("at", (0, 1), None), ("between", (0, 1), None, None), ("at", (1, 1), None)],
                [("at", (0, 1), None), ("between", (0, 1), None, None), ("between", (0, 1), None, None)],
                [("at", (0, 1), None), ("at", (1, 1), None)],
                [("at", (0, 1), None), ("at", (0, 1), None)],
                [("between", (0, 1), None, None)],
                []):
            with self.subTest(value=value):
                self.assert_invalid(InvalidShape, value, Shape, value)

    def test_negative_times_and_lines_are_valid(self):
        Shape([("at", (0, 1), (-7, 2)), ("between", (0, 1), None, (-10 ** 59, -10 ** 59))])


class Values(ShapeTest):
    def test_at_points_and_within_pieces(self):
        shape = Shape(ENDLESS)
        for x, wanted in (((0, 1), (1, 1)), ((1, 2), (2, 1)), ((1, 1), (3, 1)), ((3, 2), (5, 2)), ((2, 1), (5, 2)), ((5, 2), None),
                          ((3, 1), (-1, 3)), ((4, 1), (0, 1)), ((5, 1), None), ((11, 2), (-3, 2)), ((10 ** 50, 1), (10 ** 50 - 7, 1))):
            self.assertEqual(shape(x), wanted)
            self.assertEqual(shape(x=x), wanted)

    def test_before_and_after(self):
        shape = Shape(ENDLESS)
        for x, before, after in (((1, 1), (3, 1), (3, 1)), ((2, 1), (2, 1), None), ((3, 1), None, (1, 1)), ((5, 1), (-1, 1), (-2, 1)),
                                 ((1, 3), (5, 3), (5, 3)), ((5, 2), None, None), ((4, 1), (0, 1), (0, 1)), ((8, 1), (1, 1), (1, 1))):
            self.assertEqual((shape.before(x), shape.after(x)), (before, after))
            self.assertEqual((shape.before(x=x), shape.after(x=x)), (before, after))

    def test_at_the_ends(self):
        shape = Shape(PIECES)
        self.assertEqual((shape.after((0, 1)), shape.before((5, 1))), ((1, 1), (-1, 1)))
        self.assert_invalid(InvalidNumber, low := (0, 1), shape.before, low)
        self.assert_invalid(InvalidNumber, high := (5, 1), shape.after, high)
        single = Shape([("at", (2, 1), (1, 1))])
        self.assertEqual(single((2, 1)), (1, 1))
        for function in (single.before, single.after):
            self.assert_invalid(InvalidNumber, point := (2, 1), function, point)

    def test_outside_of_the_range(self):
        shape = Shape([("at", (1, 1), (1, 1)), ("between", (1, 1), (2, 1), (2, 1)), ("at", (2, 1), (1, 1))])
        for x in [(0, 1), (1, 2), (99, 100), (201, 100), (3, 1), (10 ** 59, 1)] + NOT_SLOWNESSES:
            for function in (shape, shape.before, shape.after):
                with self.subTest(x=x):
                    self.assert_invalid(InvalidNumber, x, function, x)

    def test_no_slownesses(self):
        for x in NOT_SLOWNESSES:
            for shape in (Shape(ENDLESS), Shape(PIECES), flat((0, 1), None, None)):
                for function in (shape, shape.before, shape.after):
                    self.assert_invalid(InvalidNumber, x, function, x)

    def test_many_pieces(self):
        pieces = [("at", (0, 1), (0, 1))]
        for x in range(700):
            pieces += [("between", (x, 1), (x + 1, 1), (x % 3, x)), ("at", (x + 1, 1), (x, 7) if x % 7 else None)]
        shape = Shape(pieces)
        for x in range(700):
            middle = pair(Fraction(2 * x + 1, 2))
            wanted = pair((x % 3) * Fraction(2 * x + 1, 2) + x)
            self.assertEqual((shape(middle), shape.before(middle), shape.after(middle)), (wanted, wanted, wanted))
            self.assertEqual(shape((x + 1, 1)), (x, 7) if x % 7 else None)


class Combined(ShapeTest):
    def test_sums_and_differences(self):
        one = Shape([("at", (0, 1), (1, 2)), ("between", (0, 1), (1, 1), (1, 0)), ("at", (1, 1), None), ("between", (1, 1), None, (3, 1))])
        other = Shape([("at", (0, 1), (1, 3)), ("between", (0, 1), (2, 1), (-1, 5)), ("at", (2, 1), (1, 1)), ("between", (2, 1), None, None)])
        self.assertEqual((one + other).pieces(), [
            ("at", (0, 1), (5, 6)), ("between", (0, 1), (1, 1), (0, 5)), ("at", (1, 1), None), ("between", (1, 1), (2, 1), (2, 6)),
            ("at", (2, 1), (8, 1)), ("between", (2, 1), None, None)])
        self.assertEqual((one - other).pieces(), [
            ("at", (0, 1), (1, 6)), ("between", (0, 1), (1, 1), (2, -5)), ("at", (1, 1), None), ("between", (1, 1), (2, 1), (4, -4)),
            ("at", (2, 1), (6, 1)), ("between", (2, 1), None, None)])

    def test_sum_without_needless_points(self):
        one = ramp(2, 0) | flat((0, 1), None, (4, 1))
        self.assertEqual((one + (ramp(2, 0) & flat((0, 1), None, (4, 1)))).pieces(), ramp(2, 4).pieces())
        self.assertEqual((one - one).pieces(), flat((0, 1), None, (0, 1)).pieces())

    def test_lines_that_meet_within_a_piece(self):
        one, other = ramp(2, 0), ramp(1, 3)
        self.assertEqual((one | other).pieces(), [
            ("at", (0, 1), (3, 1)), ("between", (0, 1), (3, 1), (1, 3)), ("at", (3, 1), (6, 1)), ("between", (3, 1), None, (2, 0))])
        self.assertEqual((one & other).pieces(), [
            ("at", (0, 1), (0, 1)), ("between", (0, 1), (3, 1), (2, 0)), ("at", (3, 1), (6, 1)), ("between", (3, 1), None, (1, 3))])
        fraction = ramp(3, 0) | ramp(0, 1)
        self.assertEqual(fraction.pieces()[2], ("at", (1, 3), (1, 1)))

    def test_lines_that_meet_at_points(self):
        one, other = ramp(1, 0, (0, 1), (2, 1)), ramp(-1, 4, (0, 1), (2, 1))
        self.assertEqual((one | other), other)
        self.assertEqual((one & other), one)
        one, other = ramp(1, 0), ramp(2, 0)
        self.assertEqual((one | other), other)
        self.assertEqual((one & other), one)

    def test_only_the_point_is_greater(self):
        one = Shape([("at", (0, 1), (0, 1)), ("between", (0, 1), (1, 1), (0, 0)), ("at", (1, 1), (9, 1)), ("between", (1, 1), None, (0, 0))])
        other = flat((0, 1), None, (5, 1))
        self.assertEqual((one | other).pieces(), [
            ("at", (0, 1), (5, 1)), ("between", (0, 1), (1, 1), (0, 5)), ("at", (1, 1), (9, 1)), ("between", (1, 1), None, (0, 5))])
        self.assertEqual((one & other)((1, 1)), (5, 1))

    def test_at_every_place(self):
        for seed, (first, second) in enumerate(some_shapes(400)):
            one, other = Shape(first), Shape(second)
            results = {"+": one + other, "-": one - other, "|": one | other, "&": one & other}
            for sign, result in results.items():
                self.assert_shortest(result.pieces())
                self.assertEqual((result.low, result.high), (one.low, one.high))
            for x in places(first, second, one.high):
                a, b = value_of(first, x), value_of(second, x)
                wanted = {"+": None, "-": None, "|": None, "&": None}
                if a is not None and b is not None:
                    wanted = {"+": a + b, "-": a - b, "|": max(a, b), "&": min(a, b)}
                for sign, result in results.items():
                    self.assertEqual(value_of(result.pieces(), x), wanted[sign], (seed, sign, x))
                    found = result(pair(x))
                    self.assertEqual(found, None if wanted[sign] is None else pair(wanted[sign]))
            self.assertEqual((one.pieces(), other.pieces()), (Shape(first).pieces(), Shape(second).pieces()))

    def test_other_ranges_and_kinds(self):
        shape = Shape(PIECES)
        others = [Shape(ENDLESS), Shape(PIECES[:1]), flat((0, 1), (4, 1), None), flat((1, 1), (5, 1), None), flat((0, 1), None, (0, 1))]
        for other in others + OTHER_VALUES + [PIECES, 0, 3]:
            for combine in (lambda: shape + other, lambda: shape - other, lambda: shape | other, lambda: shape & other):
                with self.subTest(other=other):
                    self.assert_invalid(InvalidShape, other, combine)
        self.assertEqual(shape.pieces(), PIECES)

    def test_great_numbers(self):
        one, other = ramp(10 ** 59, 1), ramp(10 ** 59 - 1, 10 ** 58)
        self.assertEqual((one | other).pieces()[2][1], (10 ** 58 - 1, 1))
        self.assertEqual((one - other).pieces(), ramp(1, 1 - 10 ** 58).pieces())


class Signs(ShapeTest):
    def test_plain_ones(self):
        self.assertEqual(flat((0, 1), None, (0, 1)).signs(), [("at", (0, 1), 0), ("between", (0, 1), None, 0)])
        self.assertEqual(flat((0, 1), (2, 1), None).signs(), [("at", (0, 1), None), ("between", (0, 1), (2, 1), None), ("at", (2, 1), None)])
        self.assertEqual(flat((2, 1), (2, 1), (-3, 1)).signs(), [("at", (2, 1), -1)])

    def test_zero_within_a_piece(self):
        self.assertEqual(ramp(2, -3).signs(), [
            ("at", (0, 1), -1), ("between", (0, 1), (3, 2), -1), ("at", (3, 2), 0), ("between", (3, 2), None, 1)])
        self.assertEqual(ramp(-2, 3, (0, 1), (2, 1)).signs(), [
            ("at", (0, 1), 1), ("between", (0, 1), (3, 2), 1), ("at", (3, 2), 0), ("between", (3, 2), (2, 1), -1), ("at", (2, 1), -1)])

    def test_zero_at_an_end(self):
        self.assertEqual(ramp(1, 0).signs(), [("at", (0, 1), 0), ("between", (0, 1), None, 1)])
        self.assertEqual(ramp(-1, 2, (0, 1), (2, 1)).signs(), [("at", (0, 1), 1), ("between", (0, 1), (2, 1), 1), ("at", (2, 1), 0)])

    def test_needless_corners(self):
        corner = ramp(1, 1) | flat((0, 1), None, (3, 1))
        self.assertEqual(corner.signs(), [("at", (0, 1), 1), ("between", (0, 1), None, 1)])
        self.assertEqual(Shape(ENDLESS).signs(), [
            ("at", (0, 1), 1), ("between", (0, 1), (2, 1), 1), ("at", (2, 1), 1), ("between", (2, 1), (3, 1), None), ("at", (3, 1), -1),
            ("between", (3, 1), (4, 1), 1), ("at", (4, 1), 0), ("between", (4, 1), (5, 1), -1), ("at", (5, 1), None),
            ("between", (5, 1), (7, 1), -1), ("at", (7, 1), 0), ("between", (7, 1), None, 1)])

    def test_at_every_place(self):
        for first, second in some_shapes(300):
            shape = Shape(first)
            signs = shape.signs()
            for x in places(first, first, shape.high):
                value = value_of(first, x)
                wanted = None if value is None else (value > 0) - (value < 0)
                found = [sign[-1] for sign in signs if (sign[0] == "at" and Fraction(*sign[1]) == x) or (
                    sign[0] == "between" and Fraction(*sign[1]) < x and (sign[2] is None or x < Fraction(*sign[2])))]
                self.assertEqual(found, [wanted])
            for index in range(2, len(signs) - 1, 2):
                self.assertNotEqual(signs[index - 1][3:] + signs[index][2:], signs[index][2:] + signs[index + 1][3:])
            self.assertEqual((signs[0][1], signs[-1][1] if signs[-1][0] == "at" else None), (shape.low, shape.high))
            for index in range(len(signs) - 1):
                self.assertEqual(signs[index][1 if index % 2 == 0 else 2], signs[index + 1][1])

    def test_result_is_new(self):
        shape = ramp(1, 0)
        shape.signs().clear()
        self.assertEqual(len(shape.signs()), 2)


class Least(ShapeTest):
    def test_taken(self):
        self.assertEqual(ramp(1, 2).least(), ((2, 1), (0, 1), "at"))
        self.assertEqual(flat((3, 2), None, (5, 1)).least(), ((5, 1), (3, 2), "at"))
        self.assertEqual(ramp(-1, 2, (0, 1), (2, 1)).least(), ((0, 1), (2, 1), "at"))
        self.assertEqual(Shape([("at", (7, 3), (-1, 2))]).least(), ((-1, 2), (7, 3), "at"))

    def test_corner(self):
        self.assertEqual((ramp(-2, 3) | ramp(1, 0)).least(), ((1, 1), (1, 1), "at"))

    def test_approached_from_the_left(self):
        pieces = [("at", (0, 1), (9, 1)), ("between", (0, 1), (2, 1), (-1, 4)), ("at", (2, 1), (5, 1)), ("between", (2, 1), None, (1, 7))]
        self.assertEqual(Shape(pieces).least(), ((2, 1), (2, 1), "before"))
        pieces[2] = ("at", (2, 1), None)
        self.assertEqual(Shape(pieces).least(), ((2, 1), (2, 1), "before"))

    def test_approached_from_the_right(self):
        pieces = [("at", (0, 1), (9, 1)), ("between", (0, 1), (2, 1), (0, 8)), ("at", (2, 1), (5, 1)), ("between", (2, 1), None, (1, 0))]
        self.assertEqual(Shape(pieces).least(), ((2, 1), (2, 1), "after"))
        self.assertEqual(Shape([("at", (0, 1), None), ("between", (0, 1), None, (3, 1))]).least(), ((1, 1), (0, 1), "after"))
        self.assertEqual(Shape([("at", (0, 1), (2, 1)), ("between", (0, 1), None, (0, 1))]).least(), ((1, 1), (0, 1), "after"))

    def test_order_at_the_same_place(self):
        def around(left, time, right):
            return Shape([("at", (0, 1), (9, 1)), ("between", (0, 1), (1, 1), left), ("at", (1, 1), time), ("between", (1, 1), None, right)]).least()
        self.assertEqual(around((-1, 3), (2, 1), (1, 1)), ((2, 1), (1, 1), "at"))
        self.assertEqual(around((-1, 3), (3, 1), (1, 1)), ((2, 1), (1, 1), "before"))
        self.assertEqual(around((-1, 4), (2, 1), (1, 1)), ((2, 1), (1, 1), "at"))
        self.assertEqual(around((-1, 4), (3, 1), (1, 1)), ((2, 1), (1, 1), "after"))
        self.assertEqual(around(None, None, (1, 1)), ((2, 1), (1, 1), "after"))

    def test_least_place_of_several(self):
        pieces = [("at", (0, 1), (9, 1)), ("between", (0, 1), (1, 1), (0, 9)), ("at", (1, 1), (5, 1)), ("between", (1, 1), (2, 1), (0, 2)),
                  ("at", (2, 1), (2, 1)), ("between", (2, 1), None, (0, 2))]
        self.assertEqual(Shape(pieces).least(), ((2, 1), (1, 1), "after"))
        pieces[4] = ("at", (2, 1), (3, 2))
        self.assertEqual(Shape(pieces).least(), ((3, 2), (2, 1), "at"))

    def test_falls_without_end(self):
        self.assertIsNone(ramp(-1, 10 ** 59).least())
        pieces = [("at", (0, 1), (-9, 1)), ("between", (0, 1), (1, 1), None), ("at", (1, 1), None), ("between", (1, 1), None, (-1, 5))]
        self.assertIsNone(Shape(pieces).least())
        pieces[3] = ("between", (1, 1), None, (0, 5))
        self.assertEqual(Shape(pieces).least(), ((-9, 1), (0, 1), "at"))
        pieces[3] = ("between", (1, 1), None, None)
        self.assertEqual(Shape(pieces).least(), ((-9, 1), (0, 1), "at"))

    def test_no_value(self):
        for high in (None, (0, 1), (3, 1)):
            self.assertIsNone(flat((0, 1), high, None).least())

    def test_zero_and_negative_values(self):
        self.assertEqual(flat((0, 1), None, (0, 1)).least(), ((0, 1), (0, 1), "at"))
        self.assertEqual(ramp(1, -4).least(), ((-4, 1), (0, 1), "at"))

    def test_against_all_candidates(self):
        for first, second in some_shapes(400):
            shape = Shape(first)
            last = first[-1]
            if last[0] == "between" and last[3] is not None and last[3][0] < 0:
                self.assertIsNone(shape.least())
                continue
            candidates = []
            for index, piece in enumerate(first):
                if piece[0] == "at" and piece[2] is not None:
                    candidates.append((Fraction(*piece[2]), Fraction(*piece[1]), 0))
                if piece[0] == "between" and piece[3] is not None:
                    for x, side in ((piece[1], 2), (piece[2], 1)):
                        if x is not None:
                            candidates.append((piece[3][0] * Fraction(*x) + piece[3][1], Fraction(*x), side))
            if not candidates:
                self.assertIsNone(shape.least())
            else:
                time, x, side = min(candidates)
                # A needless point of the list is no place of its own, if values are the same around it.
                self.assertEqual(shape.least(), (pair(time), pair(x), ("at", "before", "after")[side]))


class Falls(ShapeTest):
    def around(self, left, time, right):
        return Shape([("at", (0, 1), (2, 1)), ("between", (0, 1), (1, 1), left), ("at", (1, 1), time), ("between", (1, 1), None, right)]).falls()

    def test_jumps(self):
        self.assertEqual(self.around((0, 2), (1, 1), (0, 1)), [((1, 1), (2, 1), (1, 1), (1, 1))])
        self.assertEqual(self.around((0, 2), (2, 1), (0, 1)), [((1, 1), (2, 1), (2, 1), (1, 1))])
        self.assertEqual(self.around((0, 2), (1, 1), (0, 2)), [((1, 1), (2, 1), (1, 1), (2, 1))])
        self.assertEqual(self.around((0, 2), (3, 1), (0, 2)), [((1, 1), (2, 1), (3, 1), (2, 1))])
        self.assertEqual(self.around((0, 2), (3, 1), (0, 3)), [])
        self.assertEqual(self.around((0, 2), (2, 1), (0, 3)), [])
        self.assertEqual(self.around((2, 2), (4, 1), (0, 4)), [])

    def test_none(self):
        self.assertEqual(self.around((0, 2), None, (0, 1)), [((1, 1), (2, 1), None, (1, 1))])
        self.assertEqual(self.around((0, 2), None, (0, 2)), [])
        self.assertEqual(self.around((0, 2), None, (0, 3)), [])
        self.assertEqual(self.around((0, 2), (1, 1), None), [((1, 1), (2, 1), (1, 1), None)])
        self.assertEqual(self.around((0, 2), (3, 1), None), [])
        self.assertEqual(self.around((0, 2), None, None), [])
        self.assertEqual(self.around(None, (3, 1), (0, 1)), [((1, 1), None, (3, 1), (1, 1))])
        self.assertEqual(self.around(None, None, (0, 1)), [])
        self.assertEqual(self.around(None, (1, 1), None), [])

    def test_at_the_ends(self):
        pieces = [("at", (0, 1), (2, 1)), ("between", (0, 1), (1, 1), (0, 1)), ("at", (1, 1), (0, 1))]
        self.assertEqual(Shape(pieces).falls(), [((0, 1), None, (2, 1), (1, 1)), ((1, 1), (1, 1), (0, 1), None)])
        self.assertEqual(flat((0, 1), (0, 1), (5, 1)).falls(), [])
        pieces[0] = ("at", (0, 1), None)
        pieces[2] = ("at", (1, 1), None)
        self.assertEqual(Shape(pieces).falls(), [])

    def test_falling_lines_are_no_jumps(self):
        self.assertEqual(ramp(-3, 9).falls(), [])
        self.assertEqual((ramp(-3, 9) | ramp(-1, 1)).falls(), [])

    def test_all_points(self):
        for first, second in some_shapes(300):
            shape = Shape(first)
            wanted = []
            for x in [piece[1] for piece in shape.pieces() if piece[0] == "at"]:
                before = None if x == shape.low else shape.before(x)
                time = shape(x)
                after = None if x == shape.high else shape.after(x)
                values = [None if value is None else Fraction(*value) for value in (before, time, after)]
                steps = [values[:2], values[1:]] if time is not None else [[values[0], values[2]]]
                if any(None not in step and step[0] > step[1] for step in steps):
                    wanted.append((x, before, time, after))
            self.assertEqual(shape.falls(), wanted)


class Equal(ShapeTest):
    def test_needless_points_make_no_difference(self):
        one = Shape([("at", (0, 1), (0, 1)), ("between", (0, 1), (1, 1), (1, 0)), ("at", (1, 1), (1, 1)), ("between", (1, 1), None, (1, 0))])
        self.assertTrue(one == ramp(1, 0))
        self.assertFalse(one != ramp(1, 0))

    def test_unequal(self):
        for other in (ramp(1, 1), ramp(2, 0), ramp(1, 0, (0, 1), (1, 1)), ramp(1, 0, (1, 1)), flat((0, 1), None, None),
                      Shape([("at", (0, 1), None), ("between", (0, 1), None, (1, 0))])):
            self.assertTrue(ramp(1, 0) != other)
            self.assertFalse(ramp(1, 0) == other)

    def test_other_kinds(self):
        for other in OTHER_VALUES + [ramp(1, 0).pieces(), 0]:
            self.assertFalse(ramp(1, 0) == other)
            self.assertTrue(ramp(1, 0) != other)


class Flat(ShapeTest):
    def test_times(self):
        for time in ((0, 1), (7, 1), (-3, 1), (10 ** 59, 1), None):
            line = None if time is None else (0, time[0])
            self.assertEqual(flat((1, 2), None, time).pieces(), [("at", (1, 2), time), ("between", (1, 2), None, line)])
            self.assertEqual(flat((1, 2), (2, 3), time).pieces(), [("at", (1, 2), time), ("between", (1, 2), (2, 3), line), ("at", (2, 3), time)])
            self.assertEqual(flat((1, 2), (1, 2), time).pieces(), [("at", (1, 2), time)])

    def test_by_name(self):
        self.assertEqual(flat(time=(1, 1), high=None, low=(0, 1)), flat((0, 1), None, (1, 1)))

    def test_no_ranges(self):
        for low in NOT_SLOWNESSES:
            for high in (None, (1, 1), "x"):
                for time in (None, "x"):
                    with self.assertRaises(InvalidRange) as caught:
                        flat(low, high, time)
                    self.assertIs(type(caught.exception.value), tuple)
                    self.assertIs(caught.exception.value[0], low)
                    self.assertIs(caught.exception.value[1], high)
        for high in [value for value in NOT_SLOWNESSES if value is not None] + [(1, 3), (0, 1)]:
            with self.assertRaises(InvalidRange) as caught:
                flat((1, 2), high, None)
            self.assertIs(caught.exception.value[1], high)

    def test_no_times(self):
        for time in [value for value in OTHER_VALUES + UNREDUCED if value is not None] + [(1, 2), (-7, 3), 0, 5]:
            self.assert_invalid(InvalidNumber, time, flat, (0, 1), None, time)


if __name__ == "__main__":
    unittest.main()
