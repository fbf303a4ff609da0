"""Tests of whatiftimes.lines."""

import math
import unittest
from fractions import Fraction

from tests.values import FRACTIONS, LINES, OTHER_VALUES, UNREDUCED
from whatiftimes.errors import InvalidNumber, InvalidRange
from whatiftimes.fractions import is_fraction
from whatiftimes.lines import is_line, meeting, order_within, value_at

NOT_LINES = OTHER_VALUES + [0, 1, -3, 10 ** 60]
NOT_FRACTIONS = NOT_LINES + UNREDUCED

SMALL_LINES = [(slope, base) for slope in range(-2, 3) for base in range(-3, 4)]
SMALL_POINTS = [(-3, 1), (-3, 2), (-1, 1), (-1, 2), (0, 1), (1, 3), (1, 2), (1, 1), (5, 4), (2, 1), (7, 2)]


def as_pair(quotient):
    return (quotient.numerator, quotient.denominator)


def difference_at(one, other, x):
    return (one[0] - other[0]) * x + one[1] - other[1]


def sign(number):
    return -1 if number < 0 else 1 if number > 0 else 0


def wanted_order(one, other, low, high):
    """The order by looking at a place in each of the parts that the crossing divides the range into."""
    low = Fraction(*low)
    high = None if high is None else Fraction(*high)
    corners = [low]
    if one[0] != other[0]:
        cross = Fraction(other[1] - one[1], one[0] - other[0])
        if low < cross and (high is None or cross < high):
            corners.append(cross)
    corners.append(corners[-1] + 1 if high is None else high)
    places = corners[1:-1] + [(corners[at] + corners[at + 1]) / 2 for at in range(len(corners) - 1)]
    signs = {sign(difference_at(one, other, place)) for place in places}
    return signs.pop() if len(signs) == 1 else None


class LineTest(unittest.TestCase):
    def assert_fraction(self, value, wanted):
        self.assertIs(type(value), tuple)
        self.assertEqual([type(each) for each in value], [int, int])
        self.assertIs(is_fraction(value), True)
        self.assertEqual(value, wanted)

    def assert_order(self, wanted, one, other, low, high):
        turned = None if wanted is None else -wanted
        for first, second, result in ((one, other, wanted), (other, one, turned)):
            found = order_within(first, second, low, high)
            self.assertEqual((found, type(found)), (result, type(result)), (first, second, low, high))

    def assert_invalid(self, value, function, *values, **named):
        with self.assertRaises(InvalidNumber) as caught:
            function(*values, **named)
        self.assertIs(caught.exception.value, value)


class IsLine(LineTest):
    def test_lines(self):
        for value in LINES + UNREDUCED + FRACTIONS:
            with self.subTest(value=value):
                self.assertIs(is_line(value), True)

    def test_other_values(self):
        for value in NOT_LINES:
            with self.subTest(value=value):
                self.assertIs(is_line(value), False)

    def test_by_name(self):
        self.assertIs(is_line(value=(0, 0)), True)


class ValueAt(LineTest):
    def test_example(self):
        self.assert_fraction(value_at((2, 1), (3, 2)), (4, 1))

    def test_is_reduced(self):
        self.assert_fraction(value_at((2, 0), (1, 4)), (1, 2))
        self.assert_fraction(value_at((6, 1), (5, 9)), (13, 3))
        self.assert_fraction(value_at((0, 5), (7, 3)), (5, 1))
        self.assert_fraction(value_at((4, -2), (1, 2)), (0, 1))
        self.assert_fraction(value_at((3, 1), (-1, 2)), (-1, 2))

    def test_against_python(self):
        for line in LINES + SMALL_LINES:
            for x in FRACTIONS:
                with self.subTest(line=line, x=x):
                    self.assert_fraction(value_at(line, x), as_pair(line[0] * Fraction(*x) + line[1]))

    def test_first_invalid_value(self):
        for value in NOT_LINES:
            with self.subTest(value=value):
                self.assert_invalid(value, value_at, value, (1, 2))
        for value in NOT_FRACTIONS:
            with self.subTest(value=value):
                self.assert_invalid(value, value_at, (1, 2), value)
        self.assert_invalid("line", value_at, "line", "x")

    def test_by_name(self):
        self.assert_fraction(value_at(x=(1, 2), line=(1, 1)), (3, 2))


class Meeting(LineTest):
    def test_example(self):
        self.assert_fraction(meeting((2, 1), (0, 4)), (3, 2))

    def test_crossing_lines(self):
        self.assert_fraction(meeting((1, 0), (0, 0)), (0, 1))
        self.assert_fraction(meeting((1, 0), (-1, 4)), (2, 1))
        self.assert_fraction(meeting((1, 5), (3, 6)), (-1, 2))
        self.assert_fraction(meeting((2, 0), (6, -6)), (3, 2))

    def test_parallel_and_equal_lines(self):
        for slope in (-3, 0, 2, 10 ** 59):
            self.assertIsNone(meeting((slope, 1), (slope, 2)))
            self.assertIsNone(meeting((slope, 1), (slope, 1)))

    def test_all_pairs(self):
        for one in LINES + SMALL_LINES:
            for other in LINES + SMALL_LINES:
                with self.subTest(one=one, other=other):
                    found = meeting(one, other)
                    if one[0] == other[0]:
                        self.assertIsNone(found)
                    else:
                        self.assert_fraction(found, as_pair(Fraction(other[1] - one[1], one[0] - other[0])))
                        self.assertEqual(difference_at(one, other, Fraction(*found)), 0)

    def test_first_invalid_value(self):
        for value in NOT_LINES:
            with self.subTest(value=value):
                self.assert_invalid(value, meeting, value, (1, 2))
                self.assert_invalid(value, meeting, (1, 2), value)
        self.assert_invalid("one", meeting, "one", "other")

    def test_by_name(self):
        self.assert_fraction(meeting(other=(0, 1), one=(1, 0)), (1, 1))


class OrderWithin(LineTest):
    def test_examples(self):
        self.assertEqual(order_within((2, 1), (0, 4), (0, 1), (3, 2)), -1)
        self.assertIsNone(order_within((2, 1), (0, 4), (1, 1), None))

    def test_equal_lines(self):
        for line in LINES:
            self.assert_order(0, line, line, (0, 1), (1, 2))
            self.assert_order(0, line, line, (-7, 3), None)

    def test_parallel_lines(self):
        self.assert_order(-1, (2, 1), (2, 2), (0, 1), (5, 1))
        self.assert_order(-1, (2, 1), (2, 2), (0, 1), None)
        self.assert_order(-1, (-2, 1), (-2, 2), (-4, 3), (-1, 1))
        self.assert_order(1, (0, 10 ** 59), (0, 10 ** 59 - 1), (0, 1), None)

    def test_crossing_inside(self):
        self.assert_order(None, (2, 1), (0, 4), (1, 1), (2, 1))
        self.assert_order(None, (2, 1), (0, 4), (1, 1), None)
        self.assert_order(None, (2, 1), (0, 4), (10 ** 59, 2 * 10 ** 59 + 1), (3 * 10 ** 58 + 1, 2 * 10 ** 58))

    def test_crossing_at_low(self):
        self.assert_order(1, (2, 1), (0, 4), (3, 2), (2, 1))
        self.assert_order(1, (2, 1), (0, 4), (3, 2), None)

    def test_crossing_at_high(self):
        self.assert_order(-1, (2, 1), (0, 4), (0, 1), (3, 2))

    def test_crossing_outside(self):
        self.assert_order(-1, (2, 1), (0, 4), (0, 1), (1, 1))
        self.assert_order(1, (2, 1), (0, 4), (2, 1), (3, 1))
        self.assert_order(1, (2, 1), (0, 4), (2, 1), None)
        self.assert_order(1, (2, 1), (0, 4), (3 * 10 ** 58 + 1, 2 * 10 ** 58), None)

    def test_against_places(self):
        for one in SMALL_LINES:
            for other in SMALL_LINES:
                for at, low in enumerate(SMALL_POINTS):
                    for high in SMALL_POINTS[at + 1:] + [None]:
                        found = order_within(one, other, low, high)
                        self.assertEqual(found, wanted_order(one, other, low, high), (one, other, low, high))

    def test_first_invalid_value(self):
        for value in NOT_LINES:
            with self.subTest(value=value):
                self.assert_invalid(value, order_within, value, (1, 2), (0, 1), (1, 1))
                self.assert_invalid(value, order_within, (1, 2), value, (0, 1), None)
        for value in NOT_FRACTIONS:
            with self.subTest(value=value):
                self.assert_invalid(value, order_within, (1, 2), (2, 1), value, (1, 1))
                self.assert_invalid(value, order_within, (1, 2), (2, 1), value, None)
                if value is not None:
                    self.assert_invalid(value, order_within, (1, 2), (2, 1), (0, 1), value)

    def test_order_of_the_arguments(self):
        self.assert_invalid("one", order_within, "one", "other", "low", "high")
        self.assert_invalid("other", order_within, (0, 0), "other", "low", "high")
        self.assert_invalid("low", order_within, (0, 0), (0, 0), "low", "high")
        self.assert_invalid("high", order_within, (0, 0), (0, 0), (1, 1), "high")

    def test_invalid_range(self):
        for low, high in (((1, 1), (1, 1)), ((1, 1), (0, 1)), ((1, 2), (1, 3)), ((0, 1), (-1, 2)), ((0, 1), (0, 1))):
            for one, other in (((0, 0), (0, 0)), ((2, 1), (0, 4)), ((1, 1), (1, 2))):
                with self.subTest(low=low, high=high):
                    with self.assertRaises(InvalidRange) as caught:
                        order_within(one, other, low, high)
                    self.assertEqual(caught.exception.value, (low, high))
                    self.assertIs(type(caught.exception.value), tuple)

    def test_invalid_number_goes_ahead_of_invalid_range(self):
        self.assert_invalid("one", order_within, "one", (0, 0), (1, 1), (0, 1))
        self.assert_invalid("other", order_within, (0, 0), "other", (1, 1), (1, 1))

    def test_by_name(self):
        self.assertEqual(order_within(high=None, low=(2, 1), other=(0, 4), one=(2, 1)), 1)

    def test_close_to_the_crossing(self):
        one, other, near = (10 ** 59, 1), (0, 2), (1, 10 ** 59)
        self.assertEqual(math.gcd(*near), 1)
        self.assert_order(-1, one, other, (0, 1), near)
        self.assert_order(1, one, other, near, None)
        self.assert_order(None, one, other, (1, 10 ** 59 + 1), (1, 10 ** 59 - 1))


if __name__ == "__main__":
    unittest.main()
