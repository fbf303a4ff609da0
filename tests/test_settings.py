"""Tests of whatiftimes.settings."""

import unittest

from tests.values import NAMES, NOT_INTEGERS, NOT_NAMES, OTHER_VALUES
from whatiftimes.errors import InvalidSetting, UnknownName
from whatiftimes.settings import Setting

NO_RULES = [None, True, False, 0, 1, "", "Turn", "TURN", "turn ", " number", "numbers", "t", b"turn", ("turn",), ["turn"],
            {"turn": 1}, {"turn"}, ("turn", "number"), [], (), {}, object(), len]

NO_PACES = NOT_INTEGERS + [-1, -10 ** 6, 10 ** 6 + 1, 10 ** 30]


class SettingTest(unittest.TestCase):
    def assert_value(self, value, function, *values, **named):
        with self.assertRaises(InvalidSetting) as caught:
            function(*values, **named)
        self.assertIs(caught.exception.value, value)

    def assert_unknown(self, name, function, *values):
        with self.assertRaises(UnknownName) as caught:
            function(*values)
        self.assertIs(caught.exception.name, name)


class Made(SettingTest):
    def test_without_arguments(self):
        setting = Setting()
        self.assertEqual((setting.rule, setting.slowness("p")), ("turn", 1))
        self.assertEqual(setting, Setting(None))
        self.assertEqual(setting, Setting({}, rule="turn"))

    def test_slownesses(self):
        for slowness in (0, 1, 2, 999999, 10 ** 6):
            setting = Setting({"p": slowness, "abcdefgh": 3})
            self.assertEqual([setting.slowness(name) for name in ("p", "abcdefgh", "q")], [slowness, 3, 1])
        for name in NAMES:
            self.assertEqual(Setting({name: 7}).slowness(name), 7)

    def test_rules(self):
        for rule in ("turn", "number"):
            self.assertEqual(Setting(rule=rule).rule, rule)
            self.assertEqual(Setting({"p": 2}, rule=rule).rule, rule)

    def test_rule_only_by_keyword(self):
        with self.assertRaises(TypeError):
            Setting({}, "turn")

    def test_by_name(self):
        self.assertEqual(Setting(rule="number", slownesses={"p": 2}), Setting({"p": 2}, rule="number"))

    def test_no_dicts(self):
        for value in ([], (), "", "p", 0, 1, True, False, [("p", 1)], (("p", 1),), {"p"}, object(), len):
            with self.subTest(value=value):
                self.assert_value(value, Setting, value)

    def test_keys_that_are_no_names(self):
        for name in NOT_NAMES:
            if not isinstance(name, (list, dict, set)):
                for given in ({name: 1}, {"p": 1, name: 2}):
                    self.assert_value(given, Setting, given)

    def test_values_that_are_no_slownesses(self):
        for slowness in NO_PACES:
            for given in ({"p": slowness}, {"a": 1, "p": slowness}):
                with self.subTest(given=given):
                    self.assert_value(given, Setting, given)

    def test_no_rules(self):
        for rule in NO_RULES:
            with self.subTest(rule=rule):
                self.assert_value(rule, Setting, rule=rule)
                self.assert_value(rule, Setting, {"p": 2}, rule=rule)

    def test_slownesses_go_ahead_of_the_rule(self):
        for rule in NO_RULES:
            given = {"p": -1}
            self.assert_value(given, Setting, given, rule=rule)

    def test_slownesses_are_copied(self):
        given = {"p": 3, "q": 1}
        setting = Setting(given)
        given["p"] = 5
        given["r"] = 7
        del given["q"]
        self.assertEqual([setting.slowness(part) for part in "pqr"], [3, 1, 1])
        self.assertEqual(setting, Setting({"p": 3}))

    def test_arguments_stay(self):
        given = {"p": 3, "q": 1}
        Setting(given)
        self.assertEqual(list(given.items()), [("p", 3), ("q", 1)])

    def test_rule_cannot_be_set(self):
        with self.assertRaises(AttributeError):
            Setting().rule = "number"


class Slowness(SettingTest):
    def test_integers(self):
        self.assertIs(type(Setting({"p": 0}).slowness("p")), int)
        self.assertEqual(Setting({"p": 0}).slowness(part="p"), 0)

    def test_unknown_names(self):
        for name in NOT_NAMES:
            with self.subTest(name=name):
                self.assert_unknown(name, Setting({"p": 2}).slowness, name)


class WithSlowness(SettingTest):
    def test_another_setting(self):
        setting = Setting({"p": 2, "q": 5}, rule="number")
        other = setting.with_slowness("p", 10 ** 6)
        self.assertEqual(other, Setting({"p": 10 ** 6, "q": 5}, rule="number"))
        self.assertEqual(setting, Setting({"p": 2, "q": 5}, rule="number"))
        self.assertEqual(setting.with_slowness(slowness=0, part="new"), Setting({"p": 2, "q": 5, "new": 0}, rule="number"))
        self.assertEqual(setting.with_slowness("p", 1), Setting({"q": 5}, rule="number"))
        self.assertEqual(Setting().with_slowness("p", 3).rule, "turn")

    def test_errors_in_their_order(self):
        setting = Setting({"p": 2})
        for name in NOT_NAMES:
            with self.subTest(name=name):
                self.assert_unknown(name, setting.with_slowness, name, 1)
                self.assert_unknown(name, setting.with_slowness, name, -1)
        for slowness in NO_PACES:
            with self.subTest(slowness=slowness):
                self.assert_value(slowness, setting.with_slowness, "p", slowness)
        self.assertEqual(setting, Setting({"p": 2}))


class Equal(SettingTest):
    def test_equal(self):
        self.assertTrue(Setting({"p": 2, "q": 3}) == Setting({"q": 3, "p": 2}))
        self.assertFalse(Setting({"p": 2}) != Setting({"p": 2}))

    def test_slowness_one_makes_no_difference(self):
        self.assertEqual(Setting({"p": 1}), Setting())
        self.assertEqual(Setting({"p": 1, "q": 0}), Setting({"q": 0}))

    def test_unequal(self):
        for other in (Setting({"p": 3}), Setting(), Setting({"q": 2}), Setting({"p": 2, "q": 0}), Setting({"p": 2}, rule="number")):
            self.assertTrue(Setting({"p": 2}) != other)
            self.assertFalse(Setting({"p": 2}) == other)

    def test_other_kinds(self):
        for other in OTHER_VALUES + [{}, {"p": 1}, "turn", ({}, "turn")]:
            self.assertFalse(Setting() == other)
            self.assertTrue(Setting() != other)


if __name__ == "__main__":
    unittest.main()
