"""Tests of whatiftimes.fractions."""

import copy
import math
import unittest
from fractions import Fraction

from tests.values import FRACTIONS, NOT_INTEGERS, OTHER_VALUES, UNREDUCED
from whatiftimes.errors import InvalidNumber
from whatiftimes.fractions import compared, fraction, is_fraction, middle, total_of

NOT_FRACTIONS = OTHER_VALUES + UNREDUCED + [0, 1, -3, 10 ** 60]

NUMBERS = [
    0, 1, -1, 2, -2, 3, 4, -6, 12, 35, -90, 97, 10 ** 30, -6 * 10 ** 29, 2 ** 199, -3 ** 125, 10 ** 60 - 1,
    math.factorial(45), -math.factorial(40), 6 * 7 ** 69, 10 ** 59, -10 ** 59,
]


def as_pair(quotient):
    """Python's own fraction as one of the program."""
    return (quotient.numerator, quotient.denominator)


class FractionTest(unittest.TestCase):
    def assert_plain(self, value):
        """A fraction of the program: a tuple of two ints, no bools, reduced."""
        self.assertIs(type(value), tuple)
        self.assertEqual([type(each) for each in value], [int, int])
        self.assertGreaterEqual(value[1], 1)
        self.assertEqual(math.gcd(value[0], value[1]), 1)

    def assert_fraction(self, value, wanted):
        self.assert_plain(value)
        self.assertEqual(value, wanted)

    def assert_invalid(self, value, function, *values, **named):
        with self.assertRaises(InvalidNumber) as caught:
            function(*values, **named)
        self.assertIs(caught.exception.value, value)


class IsFraction(FractionTest):
    def test_fractions(self):
        for value in FRACTIONS:
            with self.subTest(value=value):
                self.assertIs(is_fraction(value), True)

    def test_other_values(self):
        for value in NOT_FRACTIONS:
            with self.subTest(value=value):
                self.assertIs(is_fraction(value), False)

    def test_lists_are_no_tuples_and_bools_no_integers(self):
        self.assertIs(is_fraction((1, 1)), True)
        for value in ([1, 1], (True, 1), (1, True), (True, True), (False, 1), (False, True)):
            with self.subTest(value=value):
                self.assertIs(is_fraction(value), False)

    def test_zero_has_the_divisor_one(self):
        self.assertIs(is_fraction((0, 1)), True)
        for divisor in (-1, 0, 2, 10 ** 59):
            self.assertIs(is_fraction((0, divisor)), False)

    def test_small_pairs(self):
        for number in range(-12, 13):
            for divisor in range(-12, 13):
                with self.subTest(number=number, divisor=divisor):
                    wanted = divisor >= 1 and math.gcd(number, divisor) == 1
                    self.assertIs(is_fraction((number, divisor)), wanted)

    def test_by_name(self):
        self.assertIs(is_fraction(value=(3, 4)), True)


class MakeFraction(FractionTest):
    def test_example(self):
        self.assert_fraction(fraction(6, -4), (-3, 2))

    def test_all_signs(self):
        self.assert_fraction(fraction(6, 4), (3, 2))
        self.assert_fraction(fraction(-6, 4), (-3, 2))
        self.assert_fraction(fraction(-6, -4), (3, 2))

    def test_zero(self):
        for divisor in (1, -1, 7, -7, 10 ** 59, -10 ** 59):
            self.assert_fraction(fraction(0, divisor), (0, 1))

    def test_against_python(self):
        for number in NUMBERS:
            for divisor in NUMBERS:
                if divisor != 0:
                    with self.subTest(number=number, divisor=divisor):
                        self.assert_fraction(fraction(number, divisor), as_pair(Fraction(number, divisor)))

    def test_result_is_a_fraction(self):
        for number in range(-20, 21):
            for divisor in range(1, 21):
                self.assertIs(is_fraction(fraction(number, divisor)), True)
                self.assertIs(is_fraction(fraction(number, -divisor)), True)

    def test_divisor_zero(self):
        for number in NUMBERS:
            with self.assertRaises(InvalidNumber) as caught:
                fraction(number, 0)
            self.assertEqual((caught.exception.value, type(caught.exception.value)), (0, int))

    def test_no_integers(self):
        for value in NOT_INTEGERS:
            with self.subTest(value=value):
                self.assert_invalid(value, fraction, value, 2)
                self.assert_invalid(value, fraction, 2, value)
                self.assert_invalid(value, fraction, 0, value)

    def test_first_invalid_value(self):
        self.assert_invalid("a", fraction, "a", "b")
        self.assert_invalid("a", fraction, "a", 0)
        self.assert_invalid(True, fraction, True, False)
        self.assert_invalid(False, fraction, 1, False)
        self.assert_invalid(None, fraction, divisor=[1], number=None)

    def test_by_name(self):
        self.assert_fraction(fraction(divisor=8, number=6), (3, 4))
        self.assert_fraction(fraction(6, divisor=8), (3, 4))


class Compared(FractionTest):
    def test_example(self):
        self.assertEqual(compared((1, 2), (2, 3)), -1)

    def test_against_python(self):
        for one in FRACTIONS:
            for other in FRACTIONS:
                with self.subTest(one=one, other=other):
                    less, more = Fraction(*one) < Fraction(*other), Fraction(*one) > Fraction(*other)
                    found = compared(one, other)
                    self.assertIs(type(found), int)
                    self.assertEqual(found, -1 if less else 1 if more else 0)

    def test_close_ones(self):
        base = 10 ** 59
        self.assertEqual(compared((base + 1, base), (base, base - 1)), -1)
        self.assertEqual(compared((base, base - 1), (base + 1, base)), 1)
        self.assertEqual(compared((-base - 1, base), (-base, base - 1)), 1)
        self.assertEqual(compared((base + 1, base), (base + 1, base)), 0)

    def test_first_invalid_value(self):
        for value in NOT_FRACTIONS:
            with self.subTest(value=value):
                self.assert_invalid(value, compared, value, (1, 2))
                self.assert_invalid(value, compared, (1, 2), value)
        one, other = (2, 4), [1, 2]
        self.assert_invalid(one, compared, one, other)
        self.assert_invalid(other, compared, other, one)

    def test_by_name(self):
        self.assertEqual(compared(other=(1, 2), one=(2, 3)), 1)


class TotalOf(FractionTest):
    def test_empty(self):
        self.assert_fraction(total_of([]), (0, 1))

    def test_plain_sums(self):
        self.assert_fraction(total_of([(1, 2)]), (1, 2))
        self.assert_fraction(total_of([(1, 2), (1, 3), (1, 6)]), (1, 1))
        self.assert_fraction(total_of([(1, 2), (-1, 2)]), (0, 1))
        self.assert_fraction(total_of([(1, 6), (1, 10)]), (4, 15))
        self.assert_fraction(total_of([(5, 6), (-1, 3), (-1, 2)]), (0, 1))
        self.assert_fraction(total_of([(0, 1), (0, 1)]), (0, 1))

    def test_against_python(self):
        for first in range(len(FRACTIONS)):
            for last in range(first + 1, len(FRACTIONS) + 1):
                some = FRACTIONS[first:last]
                with self.subTest(some=some):
                    self.assert_fraction(total_of(some), as_pair(sum([Fraction(*each) for each in some], Fraction(0))))

    def test_pairs_with_common_divisors(self):
        small = [as_pair(Fraction(number, divisor)) for number in range(-9, 10) for divisor in (1, 4, 6, 10, 12, 15, 30)]
        for one in small:
            for other in small:
                self.assert_fraction(total_of([one, other]), as_pair(Fraction(*one) + Fraction(*other)))

    def test_long_list(self):
        some = [as_pair(Fraction(number * number - 999, number + 1)) for number in range(2000)]
        self.assert_fraction(total_of(some), as_pair(sum([Fraction(*each) for each in some], Fraction(0))))

    def test_long_list_of_long_divisors(self):
        some = [(1, 10 ** 59 + number) for number in range(1, 301)]
        self.assert_fraction(total_of(some), as_pair(sum([Fraction(*each) for each in some], Fraction(0))))

    def test_the_list_stays_as_it_is(self):
        some = [(1, 2), (-3, 4), (0, 1)]
        before = copy.deepcopy(some)
        total_of(some)
        self.assertEqual(some, before)
        wrong = [(1, 2), [3, 4], (2, 4)]
        before = copy.deepcopy(wrong)
        self.assert_invalid(wrong[1], total_of, wrong)
        self.assertEqual(wrong, before)

    def test_no_list(self):
        for value in OTHER_VALUES + [0, (1, 2), ((1, 2), (1, 3)), {(1, 2): 1}]:
            if not isinstance(value, list):
                with self.subTest(value=value):
                    self.assert_invalid(value, total_of, value)

    def test_first_invalid_value(self):
        for value in NOT_FRACTIONS:
            with self.subTest(value=value):
                self.assert_invalid(value, total_of, [value])
                self.assert_invalid(value, total_of, [(1, 2), (1, 3), value, (0, 0), None])

    def test_by_name(self):
        self.assert_fraction(total_of(some=[(1, 4), (1, 4)]), (1, 2))


class Middle(FractionTest):
    def test_plain_ones(self):
        self.assert_fraction(middle((0, 1), (1, 1)), (1, 2))
        self.assert_fraction(middle((1, 2), (3, 2)), (1, 1))
        self.assert_fraction(middle((-1, 1), (1, 1)), (0, 1))
        self.assert_fraction(middle((1, 3), (1, 2)), (5, 12))
        self.assert_fraction(middle((2, 3), (2, 3)), (2, 3))

    def test_against_python(self):
        for low in FRACTIONS:
            for high in FRACTIONS:
                with self.subTest(low=low, high=high):
                    self.assert_fraction(middle(low, high), as_pair((Fraction(*low) + Fraction(*high)) / 2))

    def test_first_invalid_value(self):
        for value in NOT_FRACTIONS:
            with self.subTest(value=value):
                self.assert_invalid(value, middle, value, (1, 2))
                self.assert_invalid(value, middle, (1, 2), value)
        self.assert_invalid(None, middle, None, True)

    def test_by_name(self):
        self.assert_fraction(middle(high=(3, 1), low=(1, 1)), (2, 1))


if __name__ == "__main__":
    unittest.main()
