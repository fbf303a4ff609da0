"""Tests of whatiftimes.edits."""

import itertools
import random
import unittest
from fractions import Fraction

from tests.reference import lively_program, pair, some_program, some_setting, some_slowness, wanted_run
from tests.values import NOT_NAMES, NOT_SLOWNESSES, OTHER_VALUES
from whatiftimes.edits import best_setting, first_difference, gain, slopes
from whatiftimes.errors import InvalidNumber, InvalidRange, InvalidSetting, UnknownName
from whatiftimes.programs import Program
from whatiftimes.regimes import profile
from whatiftimes.settings import Setting
from whatiftimes.shapes import Shape

A = (("work", "p", 2), ("take", "m"), ("work", "q", 1), ("give", "m"))
B = (("work", "r", 3), ("take", "m"), ("work", "q", 1), ("give", "m"), ("work", "s", 10))
PROGRAM = Program((A, B))
ZERO = (0, 1)
ONE = (1, 1)
STUCK = Program(((("get", "q"),), (("work", "p", 1),)))


def work(amount, part="w"):
    return ("work", part, amount)


def edited(seed, program):
    """A program with one edit, or one that differs altogether."""
    source = random.Random(seed)
    task = source.randrange(len(program))
    steps = len(program.tasks[task])
    kind = source.choice(("changed", "with", "without", "other", "capacity"))
    if kind == "with" and steps < 20:
        return program.with_step(task, source.randint(0, steps), source.choice((work(3, "p"), work(2, "r"), ("take", "m"))))
    if kind == "without" and steps:
        return program.without_step(task, source.randrange(steps))
    if kind == "capacity":
        return program.with_capacity("q", source.randint(1, 5))
    if kind == "changed" and steps:
        return program.changed(task, source.randrange(steps), source.choice((work(3, "p"), work(0, "p"), work(2, "r"), ("skip", 0, 1))))
    return lively_program(seed + 1000)


def cases(many):
    for seed in range(many):
        program = some_program(seed) if seed % 4 == 0 else lively_program(seed)
        yield seed, program, edited(seed, program), some_setting(seed)


class EditTest(unittest.TestCase):
    def assert_raises(self, error, attribute, wanted, function, *args, **more):
        with self.assertRaises(error) as caught:
            function(*args, **more)
        self.assertEqual(getattr(caught.exception, attribute), wanted)
        self.assertIs(type(getattr(caught.exception, attribute)), type(wanted))

    def assert_part_errors(self, function):
        """A function of a part raises UnknownName for what is no name."""
        for part in NOT_NAMES:
            with self.assertRaises(UnknownName) as caught:
                function(part)
            self.assertIs(caught.exception.name, part)


class Differences(EditTest):
    def test_against_the_journals(self):
        kinds = {"none": 0, "inner": 0}
        for seed, one, other, setting in cases(300):
            x = some_slowness(seed)
            first, second = (wanted_run(program, setting, "p", x)[0] for program in (one, other))
            pairs = list(itertools.zip_longest(first, second))
            wanted = next((index for index, (a, b) in enumerate(pairs) if a != b), None)
            self.assertEqual(first_difference(one, other, setting, "p", x), wanted)
            self.assertEqual(first_difference(other, one, setting, "p", x), wanted)
            kinds["none" if wanted is None else "inner"] += 1
        self.assertGreater(min(kinds.values()), 20)

    def test_equal_programs(self):
        self.assertIs(first_difference(PROGRAM, Program((A, B)), Setting(), "p", ONE), None)
        # Another program with the same journal.
        other = PROGRAM.changed(0, 0, work(2, "r")).with_capacity("z", 4)
        self.assertIs(first_difference(PROGRAM, other, Setting(), "p", ONE), None)
        self.assertEqual(first_difference(PROGRAM, other, Setting(), "p", (2, 1)), 0)

    def test_beginning_of_the_other_one(self):
        one = Program(((work(1), ("get", "q")), (("give", "m"),)))
        other = Program(((work(1), ("get", "q")), (("give", "m"), work(1), ("put", "q", 1))))
        stuck = Program(((work(1), ("get", "q")), (("give", "m"), ("get", "q"))))
        self.assertEqual(first_difference(one, other, Setting(), "p", ONE), 2)
        self.assertEqual(first_difference(stuck, other, Setting(), "p", ONE), 2)
        self.assertEqual(first_difference(other, stuck, Setting(), "p", ONE), 2)
        self.assertEqual(first_difference(Program(((("get", "q"),),)), other, Setting(), "p", ONE), 0)
        self.assertIs(first_difference(Program(((("get", "q"),),)), Program(((("take", "m"), ("take", "m")),)).changed(0, 0, ("get", "r")),
                                       Setting(), "p", ONE), None)

    def test_errors_in_order(self):
        self.assert_part_errors(lambda part: first_difference(PROGRAM, PROGRAM, Setting(), part, None))
        for x in NOT_SLOWNESSES:
            with self.assertRaises(InvalidNumber) as caught:
                first_difference(PROGRAM, PROGRAM, Setting(), "p", x)
            self.assertIs(caught.exception.value, x)

    def test_by_name(self):
        self.assertIs(first_difference(x=ONE, part="p", setting=Setting(), other=PROGRAM, one=PROGRAM), None)


class Gains(EditTest):
    def test_against_the_runs(self):
        gaps = 0
        for seed, one, other, setting in cases(60):
            shape = gain(one, other, setting, "p", ZERO)
            self.assertIs(type(shape), Shape)
            self.assertEqual((shape.low, shape.high), (ZERO, None))
            points = [Fraction(*piece[1]) for piece in shape.pieces() if piece[0] == "at"]
            middles = [(low + high) / 2 for low, high in zip(points, points[1:])] + [points[-1] + 1, points[-1] + 1000]
            for x in points + middles:
                first, second = (wanted_run(program, setting, "p", pair(x))[2] for program in (one, other))
                if first is None or second is None:
                    self.assertIs(shape(pair(x)), None)
                    gaps += 1
                else:
                    self.assertEqual(shape(pair(x)), pair(Fraction(*first) - Fraction(*second)))
        self.assertGreater(gaps, 10)

    def test_signs(self):
        for seed, one, other, setting in cases(25):
            for row in gain(one, other, setting, "p", ZERO, (5, 1)).signs():
                shares = (Fraction(1, 10 ** 6), Fraction(1, 2), Fraction(10 ** 6 - 1, 10 ** 6)) if row[0] == "between" else (0,)
                for share in shares:
                    size = Fraction(*row[2]) - Fraction(*row[1]) if row[0] == "between" else 0
                    x = pair(Fraction(*row[1]) + size * share)
                    first, second = (wanted_run(program, setting, "p", x)[2] for program in (one, other))
                    if first is None or second is None:
                        self.assertIs(row[-1], None)
                    else:
                        difference = Fraction(*first) - Fraction(*second)
                        self.assertEqual(row[-1], (difference > 0) - (difference < 0))

    def test_simple_shapes(self):
        one, other = Program(((work(3, "p"),),)), Program(((work(1, "p"), work(4)),))
        self.assertEqual(gain(one, other, Setting(), "p", ONE).pieces(), [("at", ONE, (-2, 1)), ("between", ONE, None, (2, -4))])
        self.assertEqual(gain(other, one, Setting(), "p", ONE, (2, 1)).pieces(),
                         [("at", ONE, (2, 1)), ("between", ONE, (2, 1), (-2, 4)), ("at", (2, 1), ZERO)])
        self.assertEqual(gain(one, one, Setting(), "p", ONE, ONE).pieces(), [("at", ONE, ZERO)])

    def test_stuck_programs(self):
        for one, other in ((STUCK, PROGRAM), (PROGRAM, STUCK), (STUCK, STUCK)):
            self.assertEqual(gain(one, other, Setting(), "p", ZERO).pieces(), [("at", ZERO, None), ("between", ZERO, None, None)])

    def test_errors_in_order(self):
        self.assert_part_errors(lambda part: gain(PROGRAM, PROGRAM, Setting(), part, None))
        for low in NOT_SLOWNESSES:
            self.assert_raises(InvalidRange, "value", (low, None), gain, PROGRAM, PROGRAM, Setting(), "p", low)
            if low is not None:
                self.assert_raises(InvalidRange, "value", (ONE, low), gain, PROGRAM, PROGRAM, Setting(), "p", ONE, low)
        self.assert_raises(InvalidRange, "value", (ONE, (1, 2)), gain, PROGRAM, PROGRAM, Setting(), "p", ONE, (1, 2))

    def test_by_name(self):
        shape = gain(high=ONE, low=ZERO, part="p", setting=Setting(), other=PROGRAM, one=PROGRAM)
        self.assertEqual((shape.low, shape.high), (ZERO, ONE))


class Slopes(EditTest):
    def test_example(self):
        self.assertEqual(slopes(PROGRAM, Setting()), [
            ("p", (14, 1), 0, 2), ("q", (14, 1), 1, 2), ("r", (14, 1), 0, 3), ("s", (14, 1), 10, 10)])

    def test_against_the_profiles(self):
        seen = {"zero": 0, "none": 0, "corner": 0}
        for seed, program, other, setting in cases(120):
            rows = slopes(program, setting)
            self.assertEqual([row[0] for row in rows], program.parts())
            for part, time, left, right in rows:
                x = (setting.slowness(part), 1)
                shape = profile(program, setting, part, ZERO)
                pieces = shape.pieces()
                before = [piece for piece in pieces if piece[0] == "between" and piece[1][0] < x[0] * piece[1][1]]
                after = [piece for piece in pieces if piece[0] == "between" and (piece[2] is None or piece[2][0] > x[0] * piece[2][1])]
                wanted_left = before[-1][3][0] if before and before[-1][3] else None
                wanted_right = after[0][3][0] if after[0][3] else None
                self.assertEqual((time, left, right), (shape(x), wanted_left, wanted_right))
                seen["zero"] += x == ZERO
                seen["none"] += time is None
                seen["corner"] += left is not None and right is not None and left != right
        self.assertGreater(min(seen.values()), 5)

    def test_slowness_zero(self):
        self.assertEqual(slopes(Program(((work(3, "p"), work(2)),)), Setting({"p": 0})), [("p", (2, 1), None, 3), ("w", (2, 1), 2, 2)])

    def test_great_slowness_and_amounts(self):
        program = Program(((work(10 ** 30, "p"), work(10 ** 30)), (work(10 ** 30, "p"), ("take", "m"))))
        setting = Setting({"p": 10 ** 6, "w": 10 ** 6})
        total = (2 * 10 ** 36, 1)
        self.assertEqual(slopes(program, setting), [("p", total, 10 ** 30, 10 ** 30), ("w", total, 10 ** 30, 10 ** 30)])

    def test_amounts_of_zero(self):
        self.assertEqual(slopes(Program(((work(0, "p"), work(3)),)), Setting()), [("p", (3, 1), 0, 0), ("w", (3, 1), 3, 3)])

    def test_stuck(self):
        self.assertEqual(slopes(STUCK, Setting()), [("p", None, None, None)])
        # Stuck only where task 0 takes the lock first: up to 1.
        program = Program(((work(2, "p"), ("take", "m"), ("get", "q")), (work(2), ("take", "m"), ("put", "q", 1), ("give", "m"))))
        self.assertEqual([row for row in slopes(program, Setting()) if row[0] == "p"], [("p", None, None, 2)])

    def test_no_parts(self):
        self.assertEqual(slopes(Program(((),)), Setting()), [])

    def test_lists_and_names(self):
        rows = slopes(setting=Setting(), program=PROGRAM)
        rows.clear()
        self.assertEqual(len(slopes(PROGRAM, Setting())), 4)


def all_settings(setting, costs, budget):
    """The tuples (cost, slownesses, setting) of all settings within a budget."""
    names = sorted(costs)
    choices = [range(min(setting.slowness(name), budget // costs[name]) + 1) for name in names]
    for lesses in itertools.product(*choices):
        cost = sum(less * costs[name] for less, name in zip(lesses, names))
        if cost <= budget:
            changed = setting
            for less, name in zip(lesses, names):
                changed = changed.with_slowness(name, setting.slowness(name) - less)
            yield cost, [changed.slowness(name) for name in names], changed


def wanted_best(program, setting, costs, budget):
    rows = []
    for cost, paces, changed in all_settings(setting, costs, budget):
        total = wanted_run(program, changed, "z", (changed.slowness("z"), 1))[2]
        if total is not None:
            rows.append(((Fraction(*total), cost, paces), total, changed))
    if not rows:
        return (None, setting)
    return min(rows, key=lambda row: row[0])[1:]


class BestSettings(EditTest):
    def assert_best(self, program, setting, costs, budget):
        found = best_setting(program, setting, costs, budget)
        self.assertIs(type(found), tuple)
        self.assertEqual(found, wanted_best(program, setting, costs, budget), (program.text, costs, budget))
        return found

    def test_example(self):
        total, setting = best_setting(PROGRAM, Setting(), {"q": 1, "s": 1}, 1)
        self.assertEqual((total, setting), ((4, 1), Setting({"s": 0})))

    def test_against_all_settings(self):
        better = 0
        for seed, program, other, setting in cases(70):
            source = random.Random(seed)
            names = source.sample(("p", "r", "s", "z", "y"), source.randint(0, 4))
            costs = {name: source.randint(1, 4) for name in names}
            setting = Setting({name: source.randint(0, 4) for name in "prs"}, rule=setting.rule)
            budget = source.randint(0, 7)
            total, found = self.assert_best(program, setting, costs, budget)
            better += found != setting
        self.assertGreater(better, 20)

    def test_costs_put_in_in_another_order(self):
        for seed, program, other, setting in cases(20):
            setting = Setting({"p": 2, "r": 3, "s": 2}, rule=setting.rule)
            found = [best_setting(program, setting, dict(items), 4) for items in itertools.permutations([("p", 1), ("r", 2), ("s", 1)])]
            self.assertTrue(all(each == found[0] for each in found))

    def test_ties_in_the_total(self):
        # Either one makes the total 3; the one that costs less is taken.
        program = Program(((work(3, "p"), work(3, "r")),))
        self.assertEqual(self.assert_best(program, Setting(), {"p": 3, "r": 2}, 4), ((3, 1), Setting({"r": 0})))
        self.assertEqual(self.assert_best(program, Setting(), {"p": 2, "r": 3}, 4), ((3, 1), Setting({"p": 0})))
        self.assertEqual(self.assert_best(program, Setting(), {"p": 2, "r": 3}, 5), (ZERO, Setting({"p": 0, "r": 0})))

    def test_ties_in_the_cost(self):
        # The least list of slownesses has the least slowness of the part with the first name.
        program = Program(((work(3, "p"), work(3, "r")),))
        self.assertEqual(self.assert_best(program, Setting(), {"r": 2, "p": 2}, 3), ((3, 1), Setting({"p": 0})))
        self.assertEqual(self.assert_best(program, Setting({"p": 9, "r": 2}), {"r": 2, "p": 2}, 2), ((30, 1), Setting({"p": 8, "r": 2})))

    def test_what_changes_nothing_is_not_bought(self):
        program = Program(((work(3, "p"),), (work(9, "r"),)))
        self.assertEqual(self.assert_best(program, Setting(), {"p": 1, "z": 1}, 12), ((9, 1), Setting()))
        self.assertEqual(self.assert_best(program, Setting({"r": 3}), {"p": 1, "r": 4, "z": 1}, 12), ((3, 1), Setting({"r": 0})))

    def test_faster_is_not_always_better(self):
        # In the example program a part p that is made faster from 2 to 1 lets the total stay.
        self.assertEqual(self.assert_best(PROGRAM, Setting({"p": 2}), {"p": 1}, 2), ((14, 1), Setting({"p": 2})))
        tasks = ((work(2, "p"), ("take", "m"), work(4), ("give", "m")), (work(3), ("take", "m"), work(1), ("give", "m"), work(10)))
        self.assertEqual(self.assert_best(Program(tasks), Setting({"p": 2}), {"p": 1}, 2)[0], (14, 1))

    def test_budget_zero_and_no_costs(self):
        self.assertEqual(self.assert_best(PROGRAM, Setting(), {"p": 1, "s": 1}, 0), ((14, 1), Setting()))
        self.assertEqual(self.assert_best(PROGRAM, Setting(), {}, 12), ((14, 1), Setting()))
        self.assertEqual(self.assert_best(PROGRAM, Setting(), {"s": 9}, 8), ((14, 1), Setting()))
        self.assertEqual(self.assert_best(PROGRAM, Setting(), {"s": 9}, 9), ((4, 1), Setting({"s": 0})))

    def test_slowness_is_not_lowered_below_zero(self):
        self.assertEqual(self.assert_best(Program(((work(3, "p"),),)), Setting({"p": 0}), {"p": 1}, 12), (ZERO, Setting({"p": 0})))
        self.assertEqual(self.assert_best(Program(((work(3, "p"),),)), Setting({"p": 40}), {"p": 1}, 12), ((84, 1), Setting({"p": 28})))

    def test_part_that_is_called_a(self):
        self.assertEqual(self.assert_best(Program(((work(3, "a"), work(1, "b")),)), Setting({"a": 7}), {"a": 5}, 12), ((16, 1), Setting({"a": 5})))

    def test_four_parts_with_the_greatest_budget(self):
        program = Program(((work(3, "p"), ("take", "m"), work(2, "q"), ("give", "m")), (work(5, "r"), ("take", "m"), work(1, "s"), ("give", "m"))))
        setting = Setting({name: 9 for name in "pqrs"}, rule="number")
        self.assert_best(program, setting, {"p": 1, "q": 1, "r": 1, "s": 1}, 12)

    def test_stuck_with_all_of_them(self):
        setting = Setting({"p": 3}, rule="number")
        total, found = self.assert_best(STUCK, setting, {"p": 1, "q": 2}, 12)
        self.assertIs(total, None)
        self.assertEqual(found, setting)

    def test_stuck_with_some_of_them(self):
        # With slowness 1 and less task 0 takes the lock first and never gives it.
        program = Program(((work(2, "p"), ("take", "m"), ("get", "q")), (work(2), ("take", "m"), ("put", "q", 1), ("give", "m"))))
        self.assertEqual(self.assert_best(program, Setting({"p": 3}), {"p": 1}, 12), ((4, 1), Setting({"p": 2})))
        # With the given setting the run is stuck, with a faster part it is not.
        self.assertEqual(self.assert_best(program, Setting(), {"w": 2}, 2), ((2, 1), Setting({"w": 0})))
        self.assertEqual(self.assert_best(program, Setting(), {"w": 2}, 1), (None, Setting()))

    def test_wrong_costs(self):
        wrong = [{"p": 0}, {"p": 10}, {"p": -1}, {"p": True}, {"p": None}, {"p": "1"}, {"p": (1, 1)}, {"P": 1}, {"": 1}, {1: 1}, {None: 1},
                 {"p": 1, "abcdefghi": 1}, {"p": 1, "q": 0}, {"a": 1, "b": 1, "c": 1, "d": 1, "e": 1}, [("p", 1)], (("p", 1),), "p"]
        for costs in wrong + [value for value in OTHER_VALUES if not isinstance(value, dict)] + [{1: 2}]:
            with self.assertRaises(InvalidSetting) as caught:
                best_setting(PROGRAM, Setting(), costs, "no budget")
            self.assertIs(caught.exception.value, costs)
        best_setting(PROGRAM, Setting(), {"a": 1, "b": 9, "c": 1, "d": 9}, 12)

    def test_wrong_budgets(self):
        for budget in OTHER_VALUES + [-1, 13, 10 ** 40, (3, 1)]:
            with self.assertRaises(InvalidSetting) as caught:
                best_setting(PROGRAM, Setting(), {"p": 1}, budget)
            self.assertIs(caught.exception.value, budget)

    def test_arguments_stay(self):
        costs = {"s": 1, "p": 2}
        total, setting = best_setting(budget=3, costs=costs, setting=Setting(), program=PROGRAM)
        self.assertEqual(list(costs.items()), [("s", 1), ("p", 2)])
        self.assertEqual(setting, Setting({"s": 0}))


if __name__ == "__main__":
    unittest.main()
