"""Tests of whatiftimes.sightings."""

import copy
import random
import unittest
from fractions import Fraction

from tests.reference import crowded_program, lively_program, pair, some_program, some_setting, wanted_run
from tests.values import NOT_NAMES, NOT_SLOWNESSES, OTHER_VALUES, UNREDUCED
from whatiftimes.cuts import stretches
from whatiftimes.errors import InvalidNumber, InvalidRange, InvalidSighting, LimitExceeded, UnknownName
from whatiftimes.programs import Program
from whatiftimes.regimes import profile, regimes
from whatiftimes.settings import Setting
from whatiftimes.sightings import is_shown, is_sighting, places

A = (("work", "p", 2), ("take", "m"), ("work", "q", 1), ("give", "m"))
B = (("work", "r", 3), ("take", "m"), ("work", "q", 1), ("give", "m"), ("work", "s", 10))
PROGRAM = Program((A, B))
ZERO = (0, 1)
ONE = (1, 1)
RANGES = [(ZERO, None), (ZERO, (3, 1)), ((1, 2), (2, 1)), ((1, 3), None), ((2, 1), (2, 1)), (ZERO, ZERO)]

RIGHT = [
    ("done", 0, 0, ZERO), ("done", 0, 4, (7, 2)), ("done", 1, 5, (-1, 2)), ("asked", 1, 4, (10 ** 59, 7)),
    ("within", 0, 1, ONE, (2, 1)), ("within", 0, 1, (2, 1), ONE), ("within", 1, 5, (-3, 1), (-3, 1)),
    ("ahead", 0, 0, 1, 0), ("ahead", 0, 4, 1, 5), ("ahead", 1, 2, 1, 2), ("ahead", 1, 3, 1, 1),
    ("never", 0, 4), ("never", 1, 5), ("total", ZERO), ("total", (-7, 2)), ("stuck",),
]

WRONG = [
    (), ("done",), "done", ["stuck"], "stuck", ("Stuck",), ("stuck", None), ("stuck", 0), ("total",), ("total", 14), ("total", None),
    ("seen", 0, 0, ONE), (None,), (0,), (("stuck",),), (["stuck"],), ({"stuck": 1},), (b"stuck",), ("stuck ",), ("",),
    ("done", 2, 0, ONE), ("done", -1, 0, ONE), ("done", 0, 5, ONE), ("done", 1, 6, ONE), ("done", 0, -1, ONE), ("done", None, 0, ONE),
    ("done", 0, None, ONE), ("done", 0, 0, None), ("done", 0, 0, 1), ("done", 0, 0, ONE, ONE), ("done", 0, 0), ("never", 0),
    ("never", 0, 5), ("never", 2, 0), ("never", 0, 0, ONE), ("ahead", 0, 0, 1), ("ahead", 0, 0, 1, 6), ("ahead", 0, 5, 1, 5),
    ("ahead", 0, 0, 2, 0), ("ahead", 2, 0, 0, 0), ("ahead", 0, 0, 1, 0, 0), ("ahead", 0, 0, 1, ONE), ("within", 0, 0, ONE),
    ("within", 0, 0, ONE, 2), ("within", 0, 0, 1, ONE), ("within", 0, 0, ONE, ONE, ONE), ("within", 0, 0, None, None),
    ("done", [0], 0, ONE), ("done", 0, {}, ONE),
]


def bent(sighting):
    """The same sighting with one item changed, left out, put in, as a list, with a bool in the place of an integer."""
    yield list(sighting)
    for index, item in enumerate(sighting):
        yield sighting[:index] + sighting[index + 1:]
        yield sighting[:index] + (item, item) + sighting[index + 1:]
        for other in (None, True, False, "x", [], 1.5, 99, -1, (2, 2), (1, 0)):
            yield sighting[:index] + (other,) + sighting[index + 1:]
        if isinstance(item, tuple):
            yield sighting[:index] + (list(item),) + sighting[index + 1:]
            yield sighting[:index] + ((True, item[1]),) + sighting[index + 1:]
            yield sighting[:index] + ((item[0], True),) + sighting[index + 1:]
            for other in UNREDUCED:
                yield sighting[:index] + (other,) + sighting[index + 1:]


def wanted_shown(program, setting, part, x, sighting):
    """Whether a run shows a sighting, by a look at its journal."""
    journal, waiting, total = wanted_run(program, setting, part, x)
    kind, items = sighting[0], sighting[1:]
    if kind == "stuck":
        return total is None
    if kind == "total":
        return total == items[0]
    here = [index for index, entry in enumerate(journal) if entry[:2] == items[:2]]
    if kind == "never":
        return not here
    if kind == "ahead":
        there = [index for index, entry in enumerate(journal) if entry[:2] == items[2:]]
        return bool(here and there and here[0] < there[0])
    if not here:
        return False
    entry = journal[here[0]]
    if kind == "done":
        return entry[3] == items[2]
    if kind == "asked":
        return entry[2] == items[2]
    return Fraction(*items[2]) <= Fraction(*entry[3]) <= Fraction(*items[3])


def some_sighting(source, program, setting, part):
    """A sighting that often fits somewhere."""
    x = pair(Fraction(source.randint(0, 12), source.randint(1, 4)))
    journal, waiting, total = wanted_run(program, setting, part, x)
    spots = [(task, step) for task in range(len(program)) for step in range(len(program.tasks[task]) + 1)]
    seen = [entry[:2] for entry in journal] or spots
    kind = source.choice(("done", "asked", "within", "ahead", "ahead", "never", "total", "stuck"))
    entry = source.choice(journal or [(0, 0, ZERO, ZERO)])
    if kind == "done":
        return (kind, *entry[:2], entry[3])
    if kind == "asked":
        return (kind, *entry[:2], entry[2])
    if kind == "within":
        time = Fraction(*entry[3])
        return (kind, *entry[:2], pair(time - source.randint(-1, 5)), pair(time + source.randint(0, 5)))
    if kind == "ahead":
        return (kind, *source.choice(seen), *source.choice(seen))
    if kind == "never":
        return (kind, *source.choice(spots))
    return (kind, total or (3, 1)) if kind == "total" else (kind,)


def all_points(program, setting, part, low, high, sightings):
    """All points at which anything may change: all cuts, and where any time of an entry is one of the told times."""
    times = [Fraction(*item) for sighting in sightings for item in sighting[1:] if isinstance(item, tuple)]
    points = set()
    for stretch in stretches(program, setting, part, low, high, False):
        points.add(Fraction(*stretch[1]))
        if stretch[0] == "between":
            lines = {line for entry in stretch[3].entries for line in entry[2:] if line[0] != 0}
            found = {(time - line[1]) / line[0] for line in lines for time in times}
            points |= {x for x in found if x > Fraction(*stretch[1]) and (stretch[2] is None or x < Fraction(*stretch[2]))}
    return sorted(points)


def all_rows(points, endless):
    rows = []
    for index, x in enumerate(points):
        rows.append(("at", pair(x)))
        if index + 1 < len(points):
            rows.append(("between", pair(x), pair(points[index + 1])))
    return rows + [("between", pair(points[-1]), None)] if endless else rows


def inside(row):
    if row[0] == "at":
        return row[1]
    low = Fraction(*row[1])
    return pair(low + 3) if row[2] is None else pair(low + (Fraction(*row[2]) - low) / 3)


def wanted_places(program, setting, part, low, high, sightings):
    found = []
    for row in all_rows(all_points(program, setting, part, low, high, sightings), high is None):
        if all(wanted_shown(program, setting, part, inside(row), sighting) for sighting in sightings):
            if len(found) > 1 and row[0] == found[-2][0] == "between" and found[-1] == ("at", row[1]) and found[-2][2] == row[1]:
                found[-2:] = [("between", found[-2][1], row[2])]
            else:
                found.append(row)
    return found


def edges(row):
    """Slownesses within a told row, near its ends, and just outside of them."""
    tiny = Fraction(1, 10 ** 9)
    low = Fraction(*row[1])
    if row[0] == "at":
        return [pair(low)], [low - tiny, low + tiny]
    if row[2] is None:
        return [pair(low + step) for step in (tiny, 1, 1000, 10 ** 20)], [low]
    high = Fraction(*row[2])
    return [pair(low + (high - low) * share) for share in (tiny, Fraction(1, 2), 1 - tiny)], [low, high]


def lies_in(x, found):
    for row in found:
        if row[0] == "at" and x == Fraction(*row[1]):
            return True
        if row[0] == "between" and x > Fraction(*row[1]) and (row[2] is None or x < Fraction(*row[2])):
            return True
    return False


class SightingTest(unittest.TestCase):
    def assert_raises(self, error, attribute, wanted, function, *args):
        with self.assertRaises(error) as caught:
            function(*args)
        self.assertEqual(getattr(caught.exception, attribute), wanted)

    def assert_places(self, program, setting, part, low, high, sightings):
        found = places(program, setting, part, low, high, sightings)
        self.assertEqual(found, wanted_places(program, setting, part, low, high, sightings), (program.text, sightings))
        return found


class IsSighting(SightingTest):
    def test_right_ones(self):
        for value in RIGHT:
            self.assertIs(is_sighting(PROGRAM, value), True, value)

    def test_wrong_ones(self):
        for value in WRONG + OTHER_VALUES:
            self.assertIs(is_sighting(PROGRAM, value), False, value)

    def test_the_same_with_one_item_changed(self):
        for sighting in RIGHT:
            for value in bent(sighting):
                wanted = type(value) is tuple and value in RIGHT and "True" not in repr(value) and "False" not in repr(value)
                self.assertIs(is_sighting(PROGRAM, value), wanted, value)

    def test_depends_on_the_program(self):
        small = Program(((),))
        self.assertTrue(is_sighting(small, ("done", 0, 0, ONE)))
        self.assertFalse(is_sighting(small, ("done", 0, 1, ONE)))
        self.assertFalse(is_sighting(small, ("ahead", 0, 0, 1, 0)))
        self.assertTrue(is_sighting(Program(((), ())), ("ahead", 0, 0, 1, 0)))


class IsShown(SightingTest):
    def test_against_the_journal(self):
        counts = {True: 0, False: 0}
        for seed in range(150):
            source = random.Random(seed)
            program = some_program(seed) if seed % 2 else lively_program(seed)
            setting = some_setting(seed)
            for count in range(12):
                x = pair(Fraction(source.randint(0, 12), source.randint(1, 4)))
                sighting = some_sighting(source, program, setting, "p")
                found = is_shown(program, setting, "p", x, sighting)
                self.assertIs(found, wanted_shown(program, setting, "p", x, sighting), (program.text, x, sighting))
                counts[found] += 1
        self.assertGreater(min(counts.values()), 300)

    def test_all_kinds(self):
        shown = [("done", 1, 1, (7, 2)), ("asked", 1, 1, (3, 1)), ("within", 1, 1, (7, 2), (7, 2)), ("within", 1, 1, (3, 1), (4, 1)),
                 ("ahead", 0, 3, 1, 1), ("ahead", 0, 0, 0, 1), ("total", (29, 2)), ("done", 1, 5, (29, 2)), ("ahead", 0, 4, 1, 5)]
        hidden = [("done", 1, 1, (3, 1)), ("asked", 1, 1, (7, 2)), ("within", 1, 1, (4, 1), (3, 1)), ("within", 1, 1, (18, 5), (4, 1)),
                  ("within", 1, 1, (3, 1), (17, 5)), ("ahead", 1, 1, 0, 3), ("ahead", 0, 1, 0, 0), ("ahead", 0, 1, 0, 1),
                  ("never", 0, 0), ("never", 1, 5), ("total", (14, 1)), ("stuck",)]
        for sighting in shown:
            self.assertIs(is_shown(PROGRAM, Setting(), "p", (5, 4), sighting), True, sighting)
        for sighting in hidden:
            self.assertIs(is_shown(PROGRAM, Setting(), "p", (5, 4), sighting), False, sighting)

    def test_stuck_and_left_out(self):
        program = Program(((("skip", 0, 1), ("work", "w", 1), ("get", "q")), (("work", "p", 1),)))
        for sighting in (("stuck",), ("never", 0, 1), ("never", 0, 2), ("never", 0, 3), ("done", 1, 1, ONE), ("ahead", 0, 0, 1, 1)):
            self.assertIs(is_shown(program, Setting(), "p", ONE, sighting), True, sighting)
        for sighting in (("total", ONE), ("never", 0, 0), ("never", 1, 1), ("done", 0, 1, ZERO), ("asked", 0, 2, ZERO), ("ahead", 1, 1, 0, 2),
                         ("ahead", 0, 2, 1, 1), ("within", 0, 2, (-9, 1), (9, 1))):
            self.assertIs(is_shown(program, Setting(), "p", ONE, sighting), False, sighting)

    def test_errors_in_order(self):
        for part in NOT_NAMES:
            self.assert_raises(UnknownName, "name", part, is_shown, PROGRAM, Setting(), part, None, None)
        for x in NOT_SLOWNESSES:
            with self.assertRaises(InvalidNumber) as caught:
                is_shown(PROGRAM, Setting(), "p", x, None)
            self.assertIs(caught.exception.value, x)
        for sighting in WRONG + OTHER_VALUES + [[("stuck",)]]:
            self.assert_raises(InvalidSighting, "index", 0, is_shown, PROGRAM, Setting(), "p", ONE, sighting)


class Places(SightingTest):
    def test_examples(self):
        self.assertEqual(places(PROGRAM, Setting(), "p", ZERO, None, [("done", 1, 1, (4, 1))]), [("at", (3, 2))])
        self.assertEqual(places(PROGRAM, Setting(), "p", ONE, None, [("total", (14, 1))]),
                         [("at", ONE), ("between", (3, 2), (13, 2)), ("at", (13, 2))])

    def test_against_all_points(self):
        some = 0
        for seed in range(130):
            source = random.Random(seed)
            program = some_program(seed) if seed % 3 == 0 else lively_program(seed)
            low, high = RANGES[seed % len(RANGES)]
            if sum(1 for stretch in stretches(program, some_setting(seed), "p", low, high, False)) > 60:
                continue
            for many in (1, 1, 2):
                sightings = [some_sighting(source, program, some_setting(seed), "p") for count in range(many)]
                some += bool(self.assert_places(program, some_setting(seed), "p", low, high, sightings))
        self.assertGreater(some, 60)

    def test_told_points_and_pieces_and_just_outside(self):
        for seed in range(60):
            source = random.Random(seed)
            program, setting = lively_program(seed), some_setting(seed)
            sightings = [some_sighting(source, program, setting, "p")]
            found = places(program, setting, "p", ZERO, None, sightings)
            for row in found:
                within, outside = edges(row)
                for x in within:
                    self.assertTrue(all(is_shown(program, setting, "p", x, sighting) for sighting in sightings))
                for x in outside:
                    if x >= 0:
                        shown = all(is_shown(program, setting, "p", pair(x), sighting) for sighting in sightings)
                        self.assertIs(shown, lies_in(x, found), (seed, row, x))

    def test_kinds_of_the_result(self):
        found = places(PROGRAM, Setting(), "p", ONE, None, [("total", (14, 1))])
        self.assertEqual([type(row) for row in found], [tuple] * 3)
        self.assertIs(type(found), list)

    def test_no_sightings(self):
        self.assertEqual(places(PROGRAM, Setting(), "p", ONE, None, []), [("at", ONE), ("between", ONE, None)])
        self.assertEqual(places(PROGRAM, Setting(), "p", ONE, (9, 1), []), [("at", ONE), ("between", ONE, (9, 1)), ("at", (9, 1))])
        self.assertEqual(places(PROGRAM, Setting(), "p", ONE, ONE, []), [("at", ONE)])

    def test_at_between_two_pieces_is_one_between(self):
        # The order of the entries changes at 3/2 and elsewhere, the sighting does not care.
        rows = regimes(PROGRAM, Setting(), "p", ZERO)
        self.assertGreater(len(rows), 4)
        found = places(PROGRAM, Setting(), "p", ZERO, None, [("done", 1, 0, (3, 1)), ("asked", 0, 0, ZERO)])
        self.assertEqual(found, [("at", ZERO), ("between", ZERO, None)])

    def test_orders_of_ends(self):
        # Both works end at 3 where x is 1; there task 0 goes first.
        program = Program(((("work", "w", 3),), (("work", "p", 3),)))
        self.assertEqual(self.assert_places(program, Setting(), "p", ZERO, None, [("ahead", 1, 1, 0, 1)]),
                         [("at", ZERO), ("between", ZERO, ONE)])
        self.assertEqual(self.assert_places(program, Setting(), "p", ZERO, None, [("ahead", 0, 1, 1, 1)]),
                         [("at", ONE), ("between", ONE, None)])

    def test_orders_of_works_and_steps_that_waited(self):
        # Task 1 asks for the lock at 1 and takes it at 4; task 0 begins its second work at x.
        program = Program(((("give", "z"), ("work", "p", 1), ("work", "z", 1)), (("work", "w", 1), ("take", "m")),
                           (("take", "m"), ("work", "w", 4), ("give", "m"))))
        self.assertEqual(self.assert_places(program, Setting(), "p", ZERO, None, [("ahead", 0, 2, 1, 1)]),
                         [("at", ZERO), ("between", ZERO, (4, 1)), ("at", (4, 1))])
        self.assertEqual(self.assert_places(program, Setting(), "p", ZERO, None, [("ahead", 1, 1, 0, 2)]), [("between", (4, 1), None)])
        # Works are entered when they begin: that of task 2 at 0, where only at x = 0 task 0 is ahead.
        self.assertEqual(self.assert_places(program, Setting(), "p", ZERO, None, [("ahead", 2, 1, 0, 2)]), [("between", ZERO, None)])
        self.assertEqual(self.assert_places(program, Setting(), "p", ZERO, None, [("ahead", 0, 1, 2, 1)]),
                         [("at", ZERO), ("between", ZERO, None)])

    def test_orders_of_entries_that_are_not_there(self):
        program = Program(((("work", "p", 1), ("get", "q")), (("work", "w", 1), ("work", "w", 1))))
        for sighting in (("ahead", 0, 1, 1, 0), ("ahead", 1, 0, 0, 1), ("ahead", 0, 1, 0, 2), ("ahead", 0, 2, 1, 2), ("ahead", 1, 2, 0, 2)):
            self.assertEqual(self.assert_places(program, Setting(), "p", ZERO, None, [sighting]), [])

    def test_lock_that_is_not_given_back(self):
        tasks = ((("work", "w", 2), ("take", "m"), ("get", "q")), (("work", "p", 2), ("take", "m"), ("give", "m")))
        found = self.assert_places(Program(tasks), Setting(), "p", ZERO, None, [("never", 1, 1)])
        self.assertEqual(found, [("at", ONE), ("between", ONE, None)])

    def test_one_slowness_is_left_out(self):
        # Only where all three tasks put at the same time, the value 1 comes second, and the work is left out.
        tasks = tuple((("work", part, 2), ("put", "q", value)) for value, part in enumerate("wpw"))
        program = Program(tasks + ((("get", "q"), ("get", "q"), ("skip", 1, 1), ("work", "z", 0)),), {"q": 3})
        self.assertEqual(self.assert_places(program, Setting(), "p", ZERO, (4, 1), [("never", 3, 3)]), [("at", ONE)])
        found = self.assert_places(program, Setting(), "p", ZERO, (4, 1), [("within", 3, 3, ZERO, (99, 1))])
        self.assertEqual(found, [("at", ZERO), ("between", ZERO, ONE), ("between", ONE, (4, 1)), ("at", (4, 1))])
        self.assertEqual(self.assert_places(program, Setting(), "p", ONE, None, [("ahead", 3, 3, 3, 4)]), [("between", ONE, None)])

    def test_ends_of_the_range(self):
        program = Program(((("work", "p", 2), ("take", "m"), ("give", "m")), (("work", "w", 2), ("take", "m"), ("give", "m"))))
        sightings = [("within", 0, 1, ZERO, (10, 1))]
        for high in ((9, 1), (5, 1)):
            self.assertEqual(self.assert_places(program, Setting(), "p", ZERO, high, sightings),
                             [("at", ZERO), ("between", ZERO, (5, 1)), ("at", (5, 1))])
        self.assertEqual(self.assert_places(program, Setting(), "p", (5, 1), None, sightings), [("at", (5, 1))])
        self.assertEqual(self.assert_places(program, Setting(), "p", (6, 1), None, sightings), [])

    def test_early_greater_than_late(self):
        for part in ("p", "w", "z"):
            self.assertEqual(self.assert_places(PROGRAM, Setting(), part, ZERO, None, [("within", 0, 0, (5, 1), (4, 1))]), [])
        self.assertEqual(self.assert_places(PROGRAM, Setting(), "p", ZERO, None, [("within", 0, 0, (5, 1), (5, 1))]), [("at", (5, 2))])

    def test_part_that_does_not_occur(self):
        self.assertEqual(places(PROGRAM, Setting(), "z", ZERO, None, [("total", (14, 1))]), [("at", ZERO), ("between", ZERO, None)])
        self.assertEqual(places(PROGRAM, Setting(), "z", ZERO, None, [("total", (15, 1))]), [])
        self.assertEqual(places(PROGRAM, Setting(), "z", ZERO, None, [("stuck",)]), [])

    def test_ranges_of_one_point(self):
        for x in (ZERO, (3, 2), (13, 2), (10 ** 40, 7)):
            self.assertEqual(places(PROGRAM, Setting(), "p", x, x, [("done", 0, 0, pair(2 * Fraction(*x)))]), [("at", x)])
            self.assertEqual(places(PROGRAM, Setting(), "p", x, x, [("stuck",)]), [])

    def test_very_many_regimes(self):
        ladder = Program(tuple((("work", part, number + 1),) * 20 for number, part in enumerate("pwpwpw")))
        with self.assertRaises(LimitExceeded):
            regimes(ladder, Setting(), "p", ZERO)
        self.assertEqual(places(ladder, Setting(), "p", ZERO, None, [("done", 5, 20, (120, 1))]), [("at", ZERO), ("between", ZERO, None)])
        # The third work of task 0 begins at 2 x, the eighth of task 1 at 14; at 7 task 0 goes first.
        self.assertEqual(places(ladder, Setting(), "p", ZERO, None, [("ahead", 0, 2, 1, 7)]),
                         [("at", ZERO), ("between", ZERO, (7, 1)), ("at", (7, 1))])
        self.assertEqual(places(ladder, Setting(), "p", ONE, (9, 1), [("ahead", 1, 7, 0, 2)]),
                         [("between", (7, 1), (9, 1)), ("at", (9, 1))])
        self.assertEqual(places(ladder, Setting(), "p", ZERO, None, [("asked", 2, 19, (19, 1)), ("ahead", 0, 19, 1, 19)]), [("at", (1, 3))])

    def test_totals_of_crowded_programs(self):
        for seed in range(2):
            program = crowded_program(seed)
            shape = profile(program, Setting(), "p", ZERO, (2, 1))
            for time in (shape((1, 3)), shape(ONE), shape((2, 1)), (1, 7)):
                found = places(program, Setting(), "p", ZERO, (2, 1), [("total", time)])
                level = Fraction(*time)
                wanted = set()
                for piece in shape.pieces():
                    if piece[0] == "at" and piece[2] == time:
                        wanted.add(("at", piece[1]))
                    elif piece[0] == "between" and piece[3][0] != 0:
                        x = (level - piece[3][1]) / piece[3][0]
                        if Fraction(*piece[1]) < x < Fraction(*piece[2]):
                            wanted.add(("at", pair(x)))
                    elif piece[0] == "between" and piece[3][1] == level:
                        wanted.add(piece[:3])
                self.assertEqual(set(found), wanted)
                self.assertEqual(found, sorted(found, key=lambda row: (Fraction(*row[1]), len(row))))

    def test_many_sightings(self):
        sightings = [("within", 0, 0, ZERO, (time, 7)) for time in range(7, 1500) if time % 7] + [("within", 0, 0, (1, 2), (10 ** 6, 1))]
        self.assertEqual(places(PROGRAM, Setting(), "p", ZERO, (1, 1), sightings),
                         [("at", (1, 4)), ("between", (1, 4), (4, 7)), ("at", (4, 7))])

    def test_arguments_stay(self):
        sightings = [("total", (14, 1)), ("never", 0, 0)]
        before = copy.deepcopy(sightings)
        found = places(PROGRAM, Setting(), "p", ONE, None, sightings)
        self.assertEqual(sightings, before)
        found.append("more")
        self.assertEqual(places(PROGRAM, Setting(), "p", ONE, None, sightings), found[:-1])

    def test_by_name(self):
        self.assertTrue(is_sighting(value=("stuck",), program=PROGRAM))
        self.assertFalse(is_shown(sighting=("stuck",), x=ONE, part="p", setting=Setting(), program=PROGRAM))
        self.assertEqual(places(sightings=[("stuck",)], high=None, low=ZERO, part="p", setting=Setting(), program=PROGRAM), [])

    def test_errors_in_order(self):
        for part in NOT_NAMES:
            self.assert_raises(UnknownName, "name", part, places, PROGRAM, Setting(), part, None, "no", None)
        for low in NOT_SLOWNESSES:
            self.assert_raises(InvalidRange, "value", (low, None), places, PROGRAM, Setting(), "p", low, None, None)
        for high in NOT_SLOWNESSES + [(0, 1), (1, 2)]:
            if high is not None:
                self.assert_raises(InvalidRange, "value", (ONE, high), places, PROGRAM, Setting(), "p", ONE, high, None)
        for value in OTHER_VALUES + [(("stuck",),), ("stuck",)]:
            if not isinstance(value, list):
                self.assert_raises(InvalidSighting, "index", None, places, PROGRAM, Setting(), "p", ONE, None, value)
        for wrong in WRONG + OTHER_VALUES:
            self.assert_raises(InvalidSighting, "index", 0, places, PROGRAM, Setting(), "p", ONE, None, [wrong, wrong])
            self.assert_raises(InvalidSighting, "index", 2, places, PROGRAM, Setting(), "p", ONE, None, RIGHT[:2] + [wrong] + RIGHT)


if __name__ == "__main__":
    unittest.main()
