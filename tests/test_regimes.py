"""Tests of whatiftimes.regimes."""

import copy
import math
import unittest
from fractions import Fraction

from tests.reference import crowded_program, lively_program, pair, some_program, some_setting, wanted_choices, wanted_run
from tests.values import NOT_NAMES, NOT_SLOWNESSES
from whatiftimes.errors import InvalidRange, LimitExceeded, UnknownName
from whatiftimes.orders import critical
from whatiftimes.programs import Program
from whatiftimes.regimes import profile, regimes
from whatiftimes.runs import run
from whatiftimes.settings import Setting
from whatiftimes.shapes import Shape, flat

A = (("work", "p", 2), ("take", "m"), ("work", "q", 1), ("give", "m"))
B = (("work", "r", 3), ("take", "m"), ("work", "q", 1), ("give", "m"), ("work", "s", 10))
ZERO = (0, 1)

RANGES = [(ZERO, None), (ZERO, None), (ZERO, (3, 1)), ((1, 2), (2, 1)), ((1, 3), None), ((2, 1), (2, 1)), (ZERO, ZERO), ((1, 1), (10 ** 12, 1))]


def work(amount, part="w"):
    return ("work", part, amount)


def inside(x, y):
    """Several slownesses strictly between two, near the ends and far away too."""
    low = Fraction(*x)
    if y is None:
        return [pair(low + step) for step in (Fraction(1, 10 ** 6), Fraction(1, 3), 1, 7, 1000, 10 ** 30)]
    size = Fraction(*y) - low
    return [pair(low + size * share) for share in (Fraction(1, 10 ** 6), Fraction(1, 3), Fraction(1, 2), Fraction(10 ** 6 - 1, 10 ** 6))]


def at_slowness(journal, x):
    """A journal of lines as one of times."""
    def value(line):
        return pair(line[0] * Fraction(*x) + line[1])
    return [(task, step, value(asked), value(done)) for task, step, asked, done in journal]


def cases(many):
    for seed in range(many):
        low, high = RANGES[seed % len(RANGES)]
        yield some_program(seed) if seed % 5 == 0 else lively_program(seed), some_setting(seed), low, high


# Two tasks that work side by side: each of one to twenty times x meets each of one to twenty.
LADDER = Program(((work(1, "p"),) * 20, (work(1),) * 20))
LADDER_CUTS = sorted({Fraction(up, down) for up in range(1, 21) for down in range(1, 21)})


class RegimeTest(unittest.TestCase):
    def assert_follow(self, rows, low, high):
        """The rows follow one another from low to high."""
        x = low
        for index, row in enumerate(rows):
            self.assertIs(type(row), tuple)
            self.assertEqual((row[0], row[1]), ("at" if index % 2 == 0 else "between", x))
            if index % 2 == 1:
                self.assertTrue(row[2] is None or Fraction(*row[2]) > Fraction(*x))
                x = row[2]
        self.assertEqual((len(rows) % 2, x), (0 if high is None else 1, high))

    def assert_regimes(self, program, setting, part, low, high):
        rows = regimes(program, setting, part, low, high)
        self.assert_follow(rows, low, high)
        chosen = []
        for row in rows:
            if row[0] == "at":
                self.assertEqual((len(row), row[2:]), (4, wanted_run(program, setting, part, row[1])[:2]))
                chosen.append(wanted_choices(program, setting, part, row[1]))
            else:
                self.assertEqual(len(row), 5)
                runs = {x: wanted_run(program, setting, part, x) for x in inside(row[1], row[2])}
                for x, (journal, waiting, total) in runs.items():
                    self.assertEqual((at_slowness(row[3], x), row[4]), (journal, waiting))
                choices = [wanted_choices(program, setting, part, x) for x in runs]
                self.assertTrue(all(choice == choices[0] for choice in choices))
                chosen.append(choices[0])
        for index in range(2, len(rows) - 1, 2):
            self.assertTrue(chosen[index] != chosen[index - 1] or chosen[index] != chosen[index + 1], rows[index][1])
        return rows


class Regimes(RegimeTest):
    def test_example_program(self):
        program = Program((A, B))
        rows = self.assert_regimes(program, Setting(), "p", ZERO, None)
        # The works meet at 3/2; the lock is free again, and the tasks end, at other slownesses.
        self.assertIn((3, 2), [row[1] for row in rows if row[0] == "at"])
        self.assertIn((13, 2), [row[1] for row in rows if row[0] == "at"])

    def test_works_that_cross(self):
        program = Program(((work(2, "p"),), (work(7),)))
        rows = regimes(program, Setting(), "p", ZERO)
        self.assertEqual([row[:2] if row[0] == "at" else row[:3] for row in rows], [
            ("at", ZERO), ("between", ZERO, (7, 2)), ("at", (7, 2)), ("between", (7, 2), None)])
        self.assertEqual(rows[1], ("between", ZERO, (7, 2), [
            (0, 0, (0, 0), (2, 0)), (1, 0, (0, 0), (0, 7)), (0, 1, (2, 0), (2, 0)), (1, 1, (0, 7), (0, 7))], []))
        self.assertEqual(rows[2], ("at", (7, 2), [
            (0, 0, ZERO, (7, 1)), (1, 0, ZERO, (7, 1)), (0, 1, (7, 1), (7, 1)), (1, 1, (7, 1), (7, 1))], []))
        self.assertEqual(rows[3][3][2], (1, 1, (0, 7), (0, 7)))

    def test_crossing_where_the_greater_number_goes_first(self):
        program = Program(((work(7),), (work(2, "p"),)))
        rows = regimes(program, Setting(), "p", ZERO)
        self.assertEqual([row[1] for row in rows], [ZERO, ZERO, (7, 2), (7, 2)])
        self.assertEqual([entry[0] for entry in rows[1][3]], [0, 1, 1, 0])
        self.assertEqual([entry[0] for entry in rows[2][2]], [0, 1, 0, 1])

    def test_one_point_only(self):
        for x in (ZERO, (3, 2), (10 ** 40, 7)):
            rows = regimes(Program((A, B)), Setting(), "p", x, x)
            self.assertEqual(rows, [("at", x) + run(Program((A, B)), Setting(), "p", x)[:2]])

    def test_end_at_a_cut_and_beside_one(self):
        program = Program(((work(2, "p"),), (work(7),)))
        self.assertEqual([row[1] for row in regimes(program, Setting(), "p", ZERO, (7, 2))], [ZERO, ZERO, (7, 2)])
        self.assertEqual([row[1] for row in regimes(program, Setting(), "p", (7, 2), (4, 1))], [(7, 2), (7, 2), (4, 1)])
        near = (7 * 10 ** 40 + 1, 2 * 10 ** 40)
        self.assertEqual([row[1] for row in regimes(program, Setting(), "p", ZERO, near)], [ZERO, ZERO, (7, 2), (7, 2), near])
        self.assertEqual(len(regimes(program, Setting(), "p", near)), 2)

    def test_part_that_does_not_occur(self):
        rows = regimes(Program((A, B)), Setting(), "none", ZERO)
        self.assertEqual([row[0] for row in rows], ["at", "between"])
        self.assertEqual(rows[1][3], [(task, step, (0, asked[0]), (0, done[0])) for task, step, asked, done in rows[0][2]])

    def test_some_programs(self):
        cuts = stuck = 0
        for program, setting, low, high in cases(70):
            rows = self.assert_regimes(program, setting, "p", low, high)
            cuts += len(rows) > 4
            stuck += any(row[-1] for row in rows) and not all(row[-1] for row in rows)
        self.assertGreater(cuts, 20)
        self.assertGreater(stuck, 0)

    def test_no_cut_is_left_out(self):
        for seed in range(40):
            program, setting = lively_program(seed), some_setting(seed)
            rows = regimes(program, setting, "p", ZERO, (5, 1))
            for number in range(61):
                x = Fraction(number, 12)
                row = [row for row in rows if (Fraction(*row[1]) == x if row[0] == "at" else Fraction(*row[1]) < x < Fraction(*row[2]))][0]
                journal = row[2] if row[0] == "at" else at_slowness(row[3], pair(x))
                self.assertEqual((journal, row[-1]), wanted_run(program, setting, "p", pair(x))[:2])

    def test_same_journals_on_both_sides_of_a_cut(self):
        # Tasks 0 and 1 wait for ever, in another order: no entry tells it, but the choices do.
        program = Program(((work(1, "p"), ("get", "q")), (work(1), ("get", "q"))))
        rows = self.assert_regimes(program, Setting(), "p", ZERO, None)
        self.assertEqual([row[1] for row in rows], [ZERO, ZERO, (1, 1), (1, 1)])
        self.assertEqual(rows[1][3:], rows[3][3:])

    def test_great_amounts_and_far_slownesses(self):
        program = Program(((work(10 ** 30, "p"), ("take", "m")), (work(10 ** 30), ("take", "m"), work(1), ("give", "m")), (work(10 ** 30 - 1, "p"),)))
        for setting in (Setting({"w": 10 ** 6}), Setting({"w": 0})):
            rows = self.assert_regimes(program, setting, "p", ZERO, None)
            self.assertEqual(rows, regimes(program, setting, "p", ZERO))
        rows = regimes(program, Setting({"w": 10 ** 6}), "p", ZERO)
        self.assertEqual([row[1] for row in rows if row[0] == "at"], [
            ZERO, (10 ** 6, 1), (10 ** 30 + 1, 10 ** 24), (10 ** 36, 10 ** 30 - 1), (10 ** 36 + 10 ** 6, 10 ** 30 - 1)])
        self.assert_regimes(program, Setting({"w": 10 ** 6}), "p", (10 ** 59, 3), (10 ** 59, 1))

    def test_close_cuts(self):
        program = Program(((work(10 ** 30, "p"),), (work(10 ** 30 - 1, "p"),), (work(1),)))
        rows = self.assert_regimes(program, Setting(), "p", ZERO, None)
        self.assertEqual([row[1] for row in rows if row[0] == "at"], [ZERO, (1, 10 ** 30), (1, 10 ** 30 - 1)])

    def test_ladder(self):
        for low, high in ((ZERO, (1, 2)), ((7, 2), None), ((1, 1), (3, 2))):
            rows = self.assert_regimes(LADDER, Setting(), "p", low, high)
            ends = [Fraction(*low)] + ([] if high is None else [Fraction(*high)])
            wanted = [cut for cut in LADDER_CUTS if cut > ends[0] and (high is None or cut < ends[1])]
            self.assertEqual([Fraction(*row[1]) for row in rows if row[0] == "at"], ends[:1] + wanted + ends[1:])

    def test_results_are_new(self):
        program = Program((A, B, (("get", "z"),)))
        rows = regimes(program, Setting(), "p", ZERO)
        before = copy.deepcopy(rows)
        for row in rows:
            row[-1].clear()
            row[-2].append("x")
        rows.clear()
        self.assertEqual(regimes(program, Setting(), "p", ZERO), before)

    def test_by_name(self):
        program = Program((A, B))
        self.assertEqual(regimes(high=(2, 1), low=ZERO, part="p", setting=Setting(), program=program),
                         regimes(program, Setting(), "p", ZERO, (2, 1)))


class Limit(RegimeTest):
    def assert_exceeded(self, *values):
        with self.assertRaises(LimitExceeded) as caught:
            regimes(*values)
        self.assertEqual((caught.exception.limit, type(caught.exception.limit)), (300, int))

    def test_three_hundred(self):
        self.assertEqual(len(regimes(LADDER, Setting(), "p", pair(LADDER_CUTS[-150]))), 300)
        self.assert_exceeded(LADDER, Setting(), "p", pair(LADDER_CUTS[-151]))
        self.assert_exceeded(LADDER, Setting(), "p", ZERO)
        self.assertEqual(len(regimes(LADDER, Setting(), "p", ZERO, pair(LADDER_CUTS[148]))), 299)
        self.assert_exceeded(LADDER, Setting(), "p", ZERO, pair(LADDER_CUTS[149]))

    def test_profile_of_more(self):
        shape = profile(LADDER, Setting(), "p", ZERO)
        self.assertEqual(shape.pieces(), [
            ("at", ZERO, (20, 1)), ("between", ZERO, (1, 1), (0, 20)), ("at", (1, 1), (20, 1)), ("between", (1, 1), None, (20, 0))])
        # Where tasks take locks again and again, many cuts can be seen in the total.
        program = crowded_program(34)
        self.assert_exceeded(program, Setting(), "p", ZERO)
        found = profile(program, Setting(), "p", ZERO)
        self.assertGreater(len(found), 90)
        points = [Fraction(*piece[1]) for piece in found.pieces() if piece[0] == "at"]
        middles = [(low + high) / 2 for low, high in zip(points, points[1:])]
        for x in points + middles + [Fraction(number, 37) for number in range(100)]:
            self.assertEqual(found(pair(x)), wanted_run(program, Setting(), "p", pair(x))[2])


class Profile(RegimeTest):
    def test_example(self):
        shape = profile(Program((A, B)), Setting(), "p", (1, 1))
        self.assertEqual((shape.pieces()[1:5], shape.falls(), shape.least()), (
            [("between", (1, 1), (3, 2), (2, 12)), ("at", (3, 2), (15, 1)), ("between", (3, 2), (13, 2), (0, 14)), ("at", (13, 2), (14, 1))],
            [((3, 2), (15, 1), (15, 1), (14, 1))], ((14, 1), (1, 1), "at")))

    def assert_profile(self, program, setting, low, high):
        """The profile is the total at every point of the regimes and within them."""
        shape = profile(program, setting, "p", low, high)
        self.assertIs(type(shape), Shape)
        self.assertEqual((shape.low, shape.high), (low, high))
        for row in regimes(program, setting, "p", low, high):
            for x in [row[1]] if row[0] == "at" else inside(row[1], row[2]):
                self.assertEqual(shape(x), wanted_run(program, setting, "p", x)[2])
        cuts = {row[1] for row in regimes(program, setting, "p", low, high)}
        corners = [piece[1] for piece in shape.pieces() if piece[0] == "at"]
        for x, before, at, after in shape.falls():
            self.assertIn(x, cuts)
        for piece in shape.pieces():
            if piece[0] == "between" and piece[3] is not None:
                self.assertGreaterEqual(piece[3][0], 0)
        return len(corners)

    def test_some_programs(self):
        corners = 0
        for program, setting, low, high in cases(120):
            corners += self.assert_profile(program, setting, low, high) > 2
        self.assertGreater(corners, 25)

    def test_falls_are_all_places_with_a_shorter_total_behind(self):
        falls = 0
        for seed in range(80):
            program, setting = lively_program(seed), some_setting(seed)
            shape = profile(program, setting, "p", ZERO)
            found = [x for x, before, at, after in shape.falls()]
            falls += len(found)
            for row in regimes(program, setting, "p", ZERO):
                if row[0] == "at":
                    x, step = Fraction(*row[1]), Fraction(1, 10 ** 30)
                    totals = [wanted_run(program, setting, "p", pair(place))[2] for place in (x - step, x, x + step) if place >= 0]
                    totals = [Fraction(*total) if total is not None else None for total in totals]
                    # As x grows, nothing but a jump makes a total less.
                    steps = list(zip(totals, totals[1:])) + ([(totals[0], totals[2])] if len(totals) == 3 and totals[1] is None else [])
                    wanted = any(None not in each and each[0] > each[1] for each in steps)
                    self.assertEqual(row[1] in found, wanted, (seed, row[1]))
        self.assertGreater(falls, 20)

    def test_stuck_pieces(self):
        # The first task takes m, then n, the second one n, then m; where they overlap, both wait.
        one = (work(1, "p"), ("take", "m"), work(2), ("take", "n"), ("give", "n"), ("give", "m"))
        other = (work(5), ("take", "n"), work(2), ("take", "m"), ("give", "m"), ("give", "n"))
        shape = profile(Program((one, other)), Setting(), "p", ZERO)
        self.assertEqual(shape((0, 1)), (7, 1))
        for x, wanted in (((3, 1), (7, 1)), ((31, 10), None), ((4, 1), None), ((5, 1), None), ((69, 10), None), ((7, 1), None), ((71, 10), (91, 10)), ((8, 1), (10, 1))):
            self.assertEqual(shape(x), wanted)
            self.assertEqual(wanted_run(Program((one, other)), Setting(), "p", x)[2], wanted)
        self.assertIn(("between", (3, 1), (7, 1), None), shape.pieces())
        rows = self.assert_regimes(Program((one, other)), Setting(), "p", ZERO, None)
        self.assertTrue(any(row[-1] for row in rows))

    def test_all_stuck(self):
        self.assertEqual(profile(Program(((("get", "q"),),)), Setting(), "p", ZERO), flat(ZERO, None, None))
        self.assertEqual(profile(Program(((("await", 0),),)), Setting(), "p", ZERO, (2, 1)), flat(ZERO, (2, 1), None))

    def test_fall_over_a_single_stuck_slowness(self):
        # Ahead of 2 the last task gets 3 and 1, and works; behind 2 it gets 2 and 3, and ends; at 2 it gets 3 and 2.
        program = Program((
            (work(1, "p"), ("put", "b", 0), ("put", "a", 3)), (work(2), ("put", "a", 2)), (("get", "b"), ("put", "a", 1)),
            (("get", "a"), ("get", "a"), ("skip", 1, 2), ("skip", 3, 2), ("get", "z"), work(9))), {"a": 9})
        shape = profile(program, Setting(), "p", ZERO)
        self.assertEqual(shape.falls(), [((2, 1), (11, 1), None, (2, 1))])
        self.assertEqual([shape(x) for x in ((199, 100), (2, 1), (201, 100))], [(1099, 100), None, (201, 100)])
        self.assertEqual(shape.least(), ((2, 1), (2, 1), "after"))
        self.assert_regimes(program, Setting(), "p", ZERO, None)

    def test_far_slownesses(self):
        shape = profile(Program((A, B)), Setting(), "p", ZERO)
        for x in ((10 ** 59, 1), (10 ** 59, 7), (1, 10 ** 59)):
            self.assertEqual(shape(x), run(Program((A, B)), Setting(), "p", x)[2])
        shape = profile(Program((A, B)), Setting(), "p", (10 ** 59, 7), (10 ** 59, 1))
        self.assertEqual(shape.pieces()[1], ("between", (10 ** 59, 7), (10 ** 59, 1), (2, 1)))

    def test_great_amounts(self):
        program = Program(((work(10 ** 30, "p"), ("put", "q", 1)), (work(10 ** 30), ("get", "q"), work(10 ** 30))))
        shape = profile(program, Setting({"w": 10 ** 6}), "p", ZERO)
        self.assertEqual([piece for piece in shape.pieces() if piece[0] == "between"], [
            ("between", ZERO, (10 ** 6, 1), (0, 2 * 10 ** 36)), ("between", (10 ** 6, 1), None, (10 ** 30, 10 ** 36))])

    def test_one_point(self):
        for x in (ZERO, (3, 2), (10 ** 40, 3)):
            self.assertEqual(profile(Program((A, B)), Setting(), "p", x, x).pieces(), [("at", x, run(Program((A, B)), Setting(), "p", x)[2])])

    def test_by_name(self):
        self.assertEqual(profile(high=(2, 1), low=ZERO, part="p", setting=Setting(), program=Program((A, B))),
                         profile(Program((A, B)), Setting(), "p", ZERO, (2, 1)))

    def test_independent_of_the_slowness_in_the_setting(self):
        self.assertEqual(profile(Program((A, B)), Setting({"p": 9}), "p", ZERO), profile(Program((A, B)), Setting(), "p", ZERO))


class Errors(RegimeTest):
    def test_names_then_ranges(self):
        for function in (regimes, profile):
            for name in NOT_NAMES:
                for low, high in ((ZERO, None), ("x", None), ((1, 1), ZERO)):
                    with self.assertRaises(UnknownName) as caught:
                        function(LADDER, Setting(), name, low, high)
                    self.assertIs(caught.exception.name, name)
            for low in NOT_SLOWNESSES:
                for high in (None, (1, 1)):
                    self.assert_range(function, low, high)
                self.assert_range(function, low)
            for high in [value for value in NOT_SLOWNESSES if value is not None] + [ZERO, (99, 100)]:
                self.assert_range(function, (1, 1), high)

    def assert_range(self, function, low, *high):
        with self.assertRaises(InvalidRange) as caught:
            function(LADDER, Setting(), "p", low, *high)
        self.assertIs(type(caught.exception.value), tuple)
        self.assertIs(caught.exception.value[0], low)
        self.assertIs(caught.exception.value[1], high[0] if high else None)


class Changed(RegimeTest):
    """What becomes of totals, profiles and chains when programs are changed in ways that are plain to see."""

    def totals(self, program, setting):
        return profile(program, setting, "p", ZERO)

    def test_all_amounts_multiplied(self):
        for seed in range(40):
            program, setting = lively_program(seed), some_setting(seed)
            for factor in (2, 7, 10 ** 20):
                times = lambda step: ("work", step[1], step[2] * factor) if step[0] == "work" else step
                other = Program(tuple(tuple(times(step) for step in task) for task in program.tasks),
                                {queue: program.capacity(queue) for queue in ("q", "m")})
                wanted = []
                for piece in self.totals(program, setting).pieces():
                    if piece[-1] is None:
                        wanted.append(piece)
                    elif piece[0] == "at":
                        wanted.append(("at", piece[1], pair(Fraction(*piece[2]) * factor)))
                    else:
                        wanted.append(piece[:3] + ((piece[3][0] * factor, piece[3][1] * factor),))
                self.assertEqual(self.totals(other, setting).pieces(), wanted)
                self.assert_same_chains(program, other, setting)

    def assert_same_chains(self, one, other, setting):
        """The chains of two programs are the same, or both runs are stuck."""
        for x in (ZERO, (1, 3), (2, 1), (10 ** 20, 3)):
            if run(one, setting, "p", x)[2] is None:
                self.assertIsNone(run(other, setting, "p", x)[2])
            else:
                self.assertEqual(critical(one, setting, "p", x), critical(other, setting, "p", x))

    def test_work_split_in_two(self):
        split = 0
        for seed in range(80):
            program, setting = lively_program(seed), some_setting(seed)
            for task, steps in enumerate(program.tasks):
                works = [index for index, step in enumerate(steps) if step[0] == "work" and step[2] > 1]
                if works and len(steps) < 20 and not any(step[0] == "skip" for step in steps):
                    index = works[-1]
                    kind, part, amount = steps[index]
                    other = program.changed(task, index, (kind, part, 1)).with_step(task, index, (kind, part, amount - 1))
                    self.assertEqual(self.totals(other, setting), self.totals(program, setting))
                    self.assert_split_chains(program, other, setting, (task, index))
                    split += 1
        self.assertGreater(split, 30)

    def assert_split_chains(self, program, other, setting, place):
        """The chain of the other program has both halves of the split work, or none, and is the same beside this."""
        def places(which, x):
            journal = run(which, setting, "p", x)[0]
            return [journal[index][:2] for index in critical(which, setting, "p", x)]
        task, split = place
        for x in (ZERO, (1, 3), (2, 1)):
            if run(program, setting, "p", x)[2] is not None:
                wanted = []
                for number, index in places(program, x):
                    later = number == task and index > split
                    wanted += [(number, index + later)] + [(task, split + 1)] * ((number, index) == place)
                self.assertEqual(places(other, x), wanted)

    def test_tasks_that_share_nothing(self):
        def alone(number):
            lock = "abcdef"[number]
            return (work(number, "p"), ("take", lock), work(2 * number * number % 7), ("give", lock), work(3, "p" if number % 2 else "w"))
        for many in range(1, 7):
            tasks = tuple(alone(number) for number in range(many))
            wanted = self.totals(Program(tasks[:1]), Setting())
            for task in tasks[1:]:
                wanted = wanted | self.totals(Program((task,)), Setting())
            self.assertEqual(self.totals(Program(tasks), Setting()), wanted)
            # The chain is the whole of the task that ends last.
            for x in ((1, 2), (3, 1)):
                journal = run(Program(tasks), Setting(), "p", x)[0]
                chain = [journal[index][:2] for index in critical(Program(tasks), Setting(), "p", x)]
                self.assertEqual(chain, [(journal[-1][0], step) for step in range(6)])

    def test_tasks_one_behind_the_other(self):
        bodies = [(work(3, "p"), work(4)), (work(2),), (work(5, "p"), ("take", "m"), work(1, "r"), ("give", "m")), (work(1, "p"),)]
        for many in range(1, 5):
            tasks = tuple((("await", number - 1),) * (number > 0) + body for number, body in enumerate(bodies[:many]))
            wanted = self.totals(Program((bodies[0],)), Setting({"r": 6}))
            for body in bodies[1:many]:
                wanted = wanted + self.totals(Program((body,)), Setting({"r": 6}))
            program = Program(tasks)
            self.assertEqual(self.totals(program, Setting({"r": 6})), wanted)
            # The whole run is one chain.
            for x in ((1, 2), (3, 1)):
                chain = critical(program, Setting({"r": 6}), "p", x)
                self.assertEqual(chain, list(range(len(run(program, Setting({"r": 6}), "p", x)[0]))))

    def test_number_of_ladder_cuts(self):
        self.assertEqual(len(LADDER_CUTS), 1 + 2 * sum(sum(math.gcd(a, b) == 1 for a in range(1, b)) for b in range(2, 21)))


if __name__ == "__main__":
    unittest.main()
