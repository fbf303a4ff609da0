"""Tests of whatiftimes.errors."""

import unittest

from tests.values import OTHER_VALUES
from whatiftimes import errors

TIMES_ERRORS = {
    "InvalidProgram": "place",
    "InvalidSetting": "value",
    "InvalidRange": "value",
    "InvalidShape": "value",
    "InvalidJournal": "index",
    "InvalidSighting": "index",
    "InvalidText": "place",
    "InvalidCommand": "word",
}

OTHER_ERRORS = {
    "InvalidNumber": (ValueError, "value"),
    "LimitExceeded": (OverflowError, "limit"),
    "UnknownName": (KeyError, "name"),
    "Stuck": (RuntimeError, "blocked"),
    "TooLate": (RuntimeError, "place"),
    "NothingToUndo": (RuntimeError, "name"),
}

ATTRIBUTES = {**TIMES_ERRORS, **{name: OTHER_ERRORS[name][1] for name in OTHER_ERRORS}}

VALUES = OTHER_VALUES + [0, -3, 10 ** 60, "edits", "two words", (0, None), (1, 2), [(0, 0), (1, 3)], {"a": [1]}]


def class_of(name):
    return getattr(errors, name)


class BaseClasses(unittest.TestCase):
    def test_times_error_is_an_exception_of_its_own(self):
        self.assertEqual(errors.TimesError.__bases__, (Exception,))
        with self.assertRaises(errors.TimesError):
            raise errors.TimesError()

    def test_the_eight_are_times_errors(self):
        for name in TIMES_ERRORS:
            with self.subTest(name):
                self.assertEqual(class_of(name).__bases__, (errors.TimesError,))

    def test_the_others_have_their_base_classes(self):
        for name, (base, attribute) in OTHER_ERRORS.items():
            with self.subTest(name):
                self.assertEqual(class_of(name).__bases__, (base,))
                self.assertFalse(issubclass(class_of(name), errors.TimesError))

    def test_none_is_of_another_class(self):
        for name in ATTRIBUTES:
            for other in ATTRIBUTES:
                if name != other:
                    with self.subTest(name=name, other=other):
                        self.assertFalse(issubclass(class_of(name), class_of(other)))

    def test_the_times_errors_are_no_errors_of_python_but_exceptions(self):
        for name in TIMES_ERRORS:
            for base in (ValueError, OverflowError, ArithmeticError, KeyError, LookupError, RuntimeError):
                with self.subTest(name=name, base=base):
                    self.assertFalse(issubclass(class_of(name), base))


class Arguments(unittest.TestCase):
    def test_kept_by_position(self):
        for name, attribute in ATTRIBUTES.items():
            for value in VALUES:
                with self.subTest(name=name, value=value):
                    self.assertIs(getattr(class_of(name)(value), attribute), value)

    def test_kept_by_name(self):
        for name, attribute in ATTRIBUTES.items():
            for value in VALUES:
                with self.subTest(name=name, value=value):
                    self.assertIs(getattr(class_of(name)(**{attribute: value}), attribute), value)

    def test_kept_when_raised_and_caught_by_the_base_class(self):
        for name, attribute in ATTRIBUTES.items():
            base = class_of(name).__bases__[0]
            kept = ["some", ("value", 1)]
            with self.subTest(name):
                with self.assertRaises(base) as caught:
                    raise class_of(name)(kept)
                self.assertIs(getattr(caught.exception, attribute), kept)
                self.assertEqual(kept, ["some", ("value", 1)])

    def test_two_errors_keep_their_own(self):
        for name, attribute in ATTRIBUTES.items():
            with self.subTest(name):
                one, other = class_of(name)(1), class_of(name)(2)
                self.assertEqual((getattr(one, attribute), getattr(other, attribute)), (1, 2))

    def test_one_argument_is_needed(self):
        for name in ATTRIBUTES:
            with self.subTest(name):
                with self.assertRaises(TypeError):
                    class_of(name)()
                with self.assertRaises(TypeError):
                    class_of(name)(1, 2)


if __name__ == "__main__":
    unittest.main()
