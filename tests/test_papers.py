"""Tests of whatiftimes.papers."""

import copy
import random
import unittest
from fractions import Fraction

from tests.reference import lively_program, pair, some_program, some_setting, wanted_choices, wanted_run
from tests.values import NOT_NAMES, NOT_SLOWNESSES, OTHER_VALUES
from whatiftimes.errors import InvalidRange, LimitExceeded, UnknownName
from whatiftimes.papers import check_paper, make_paper, read_paper
from whatiftimes.programs import Program
from whatiftimes.regimes import profile, regimes
from whatiftimes.runs import run
from whatiftimes.settings import Setting
from whatiftimes.shapes import Shape, flat

A = (("work", "p", 2), ("take", "m"), ("work", "q", 1), ("give", "m"))
B = (("work", "r", 3), ("take", "m"), ("work", "q", 1), ("give", "m"), ("work", "s", 10))
ZERO = (0, 1)
PROGRAM = Program((A, B))

RANGES = [(ZERO, None), ((1, 2), None), (ZERO, (2, 1)), ((1, 1), (9, 1)), (ZERO, ZERO), ((3, 2), (3, 2))]


def work(amount, part="w"):
    return ("work", part, amount)


def through(one, other, first, second):
    """The line through two points."""
    slope = (Fraction(*second) - Fraction(*first)) / (Fraction(*other) - Fraction(*one))
    base = Fraction(*first) - slope * Fraction(*one)
    return (int(slope), int(base)) if slope.denominator == base.denominator == 1 else None


def written(program, setting, x, y):
    """The tuple for what lies between two points, with lines through two runs there."""
    size = Fraction(1) if y is None else (Fraction(*y) - Fraction(*x)) / 3
    one, other = pair(Fraction(*x) + size), pair(Fraction(*x) + size * Fraction(3, 2))
    first, second = run(program, setting, "p", one), run(program, setting, "p", other)
    journal = [(a[0], a[1], through(one, other, a[2], b[2]), through(one, other, a[3], b[3])) for a, b in zip(first[0], second[0])]
    return ("between", x, y, journal, first[1])


def own_paper(program, setting, points, high):
    """A paper with these points, written through runs of one's own."""
    rows = []
    for index, x in enumerate(points):
        rows.append(("at", x) + run(program, setting, "p", x)[:2])
        if index + 1 < len(points) or high is None:
            rows.append(written(program, setting, x, points[index + 1] if index + 1 < len(points) else None))
    return rows


def points_of(paper):
    return [row[1] for row in paper if row[0] == "at"]


class PaperTest(unittest.TestCase):
    def assert_check(self, wanted, paper, low=ZERO, high=None, program=PROGRAM, setting=Setting()):
        found = check_paper(program, setting, "p", low, high, paper)
        self.assertEqual(found, wanted)
        self.assertIs(type(found), type(wanted))


class Examples(PaperTest):
    def test_of_the_document(self):
        paper = make_paper(PROGRAM, Setting(), "p", ZERO, (1, 1))
        found = (len(paper), check_paper(PROGRAM, Setting(), "p", ZERO, (1, 1), paper),
                 check_paper(PROGRAM, Setting(), "p", ZERO, (1, 1), paper[:2]))
        self.assertEqual(found, (3, None, 2))


class Returned(PaperTest):
    def test_is_accepted_and_read_as_the_profile(self):
        for seed in range(120):
            program = some_program(seed) if seed % 4 == 0 else lively_program(seed)
            setting = some_setting(seed)
            low, high = RANGES[seed % len(RANGES)]
            paper = make_paper(program, setting, "p", low, high)
            self.assert_check(None, paper, low, high, program, setting)
            shape = read_paper(paper)
            self.assertIs(type(shape), Shape)
            self.assertEqual(shape, profile(program, setting, "p", low, high))
            self.assertEqual((shape.low, shape.high), (low, high))

    def test_the_same_when_asked_again(self):
        paper = make_paper(PROGRAM, Setting(), "p", ZERO)
        before = copy.deepcopy(paper)
        paper[1][3].clear()
        paper.clear()
        self.assertEqual(make_paper(PROGRAM, Setting(), "p", ZERO), before)

    def test_by_name(self):
        paper = make_paper(high=None, low=ZERO, part="p", setting=Setting(), program=PROGRAM)
        self.assertEqual(paper, make_paper(PROGRAM, Setting(), "p", ZERO))
        self.assertIsNone(check_paper(value=paper, high=None, low=ZERO, part="p", setting=Setting(), program=PROGRAM))
        self.assertEqual(read_paper(paper=paper), profile(PROGRAM, Setting(), "p", ZERO))

    def test_limit(self):
        program = Program(((work(1, "p"),) * 20, (work(1),) * 20))
        with self.assertRaises(LimitExceeded) as caught:
            make_paper(program, Setting(), "p", ZERO)
        self.assertEqual(caught.exception.limit, 300)
        # A paper that somebody else wrote may be longer.
        cuts = sorted({Fraction(up, down) for up in range(1, 21) for down in range(1, 21)})
        paper = own_paper(program, Setting(), [pair(cut) for cut in [Fraction(0)] + cuts], None)
        self.assertEqual(len(paper), 512)
        self.assert_check(None, paper, ZERO, None, program)
        self.assert_check(511, paper[:-1], ZERO, None, program)
        self.assertEqual(read_paper(paper), profile(program, Setting(), "p", ZERO))


class WrittenByOthers(PaperTest):
    def test_more_points_than_needed(self):
        for seed in range(40):
            program, setting = lively_program(seed), some_setting(seed)
            source = random.Random(seed)
            low, high = RANGES[seed % 4]
            points = points_of(regimes(program, setting, "p", low, high))
            more = {Fraction(*x) for x in points}
            while len(more) < len(points) + 5:
                x = Fraction(*low) + Fraction(source.randint(0, 60), 41)
                if high is None or x <= Fraction(*high):
                    more.add(x)
            paper = own_paper(program, setting, [pair(x) for x in sorted(more)], high)
            self.assert_check(None, paper, low, high, program, setting)
            self.assertEqual(read_paper(paper), profile(program, setting, "p", low, high))

    def test_cuts_left_out(self):
        for seed in range(40):
            program, setting = lively_program(seed), some_setting(seed)
            points = points_of(regimes(program, setting, "p", ZERO))
            for left_out in range(1, min(len(points), 8)):
                paper = own_paper(program, setting, points[:left_out] + points[left_out + 1:], None)
                self.assert_check(2 * left_out - 1, paper, ZERO, None, program, setting)

    def test_cut_that_no_entry_tells(self):
        program = Program(((work(1, "p"), ("get", "q")), (work(1), ("get", "q"))))
        paper = make_paper(program, Setting(), "p", ZERO)
        self.assertEqual(paper[1][3:], paper[3][3:])
        joined = [paper[0], ("between", ZERO, None) + paper[1][3:]]
        self.assertNotEqual(wanted_choices(program, Setting(), "p", (1, 2)), wanted_choices(program, Setting(), "p", (2, 1)))
        self.assert_check(1, joined, ZERO, None, program)

    def test_points_close_to_a_cut(self):
        points = points_of(make_paper(PROGRAM, Setting(), "p", ZERO))
        self.assertIn((3, 2), points)
        near = [(3 * 10 ** 40 - 1, 2 * 10 ** 40), (3 * 10 ** 40 + 1, 2 * 10 ** 40)]
        all_points = sorted(points + near, key=lambda x: Fraction(*x))
        self.assert_check(None, own_paper(PROGRAM, Setting(), all_points, None))
        without = [x for x in all_points if x != (3, 2)]
        index = without.index(near[0])
        self.assert_check(2 * index + 1, own_paper(PROGRAM, Setting(), without, None))

    def test_pieces_of_the_run_beyond_a_cut(self):
        paper = make_paper(PROGRAM, Setting(), "p", ZERO)
        for index in range(1, len(paper) - 2, 2):
            # The journal of the next piece is not right here, nor is this one there.
            wrong = list(paper)
            wrong[index] = paper[index][:3] + paper[index + 2][3:]
            self.assert_check(index, wrong)
            wrong = list(paper)
            wrong[index + 2] = paper[index + 2][:3] + paper[index][3:]
            self.assert_check(index + 2, wrong)


class Wrong(PaperTest):
    def setUp(self):
        self.program = Program((A, B, (work(1, "p"), ("get", "z"))))
        self.paper = make_paper(self.program, Setting(), "p", ZERO, (8, 1))
        self.assertGreater(len(self.paper), 8)

    def assert_wrong(self, index, paper, high=(8, 1)):
        self.assert_check(index, paper, ZERO, high, self.program)

    def test_right(self):
        self.assert_wrong(None, self.paper)
        self.assert_wrong(None, copy.deepcopy(self.paper))

    def test_left_out_doubled_and_put_elsewhere(self):
        for index in range(len(self.paper)):
            self.assert_wrong(index, self.paper[:index] + self.paper[index + 1:])
            self.assert_wrong(index + 1, self.paper[:index + 1] + self.paper[index:])
            self.assert_wrong(index, self.paper[:index])
            for value in (None, (), [], "at", self.paper, list(self.paper[index]), 0):
                self.assert_wrong(index, self.paper[:index] + [value] + self.paper[index + 1:])
                self.assert_wrong(index, self.paper[:index] + [value] + self.paper[index:])
        for index in range(len(self.paper) - 1):
            swapped = list(self.paper)
            swapped[index], swapped[index + 1] = swapped[index + 1], swapped[index]
            self.assert_wrong(index, swapped)

    def test_longer(self):
        for more in (self.paper[0], self.paper[-1], self.paper[1], None, ("between", (8, 1), None, [], []), ("between", (8, 1), (9, 1), [], [])):
            self.assert_wrong(len(self.paper), self.paper + [more])
        endless = make_paper(self.program, Setting(), "p", ZERO)
        for more in (endless[0], endless[-1], None, ("at", None, [], [])):
            self.assert_wrong(len(endless), endless + [more], None)

    def test_beyond_high(self):
        endless = make_paper(self.program, Setting(), "p", ZERO)
        self.assert_wrong(None, endless, None)
        # The last piece of the range without an end goes beyond each high.
        self.assert_wrong(len(endless) - 1, endless, (10 ** 9, 1))
        longer = make_paper(self.program, Setting(), "p", ZERO, (9, 1))
        self.assert_wrong(None, longer, (9, 1))
        self.assert_wrong(len(longer) - 2, longer)

    def test_range_not_at_its_end(self):
        self.assert_wrong(len(self.paper), self.paper, (9, 1))
        self.assert_wrong(len(self.paper), self.paper, None)
        self.assert_wrong(0, [])
        self.assert_wrong(1, self.paper[:1])

    def test_one_point(self):
        paper = make_paper(self.program, Setting(), "p", (2, 1), (2, 1))
        self.assert_check(None, paper, (2, 1), (2, 1), self.program)
        self.assert_check(1, paper * 2, (2, 1), (2, 1), self.program)
        self.assert_check(1, paper + [("between", (2, 1), None, [], [])], (2, 1), (2, 1), self.program)
        self.assert_check(0, [], (2, 1), (2, 1), self.program)
        self.assert_check(1, paper, (2, 1), (3, 1), self.program)
        self.assert_check(0, paper, (1, 1), (2, 1), self.program)

    def test_tuples_with_one_item_otherwise(self):
        others = (None, True, False, 0, 1, "", "at", "between", (), [], [()], [None], (1, 1), (2, 4), [1, 2], (True, 1), (1, True), {}, b"at", 1.5)
        for index, row in enumerate(self.paper):
            for at in range(len(row)):
                for other in others:
                    if other == row[at] and type(other) is type(row[at]) and not isinstance(other, tuple):
                        continue
                    if other == row[at] == (1, 1) and type(other[1]) is int and type(other[0]) is int:
                        continue
                    # A lesser end of a piece is right by itself, and what follows then is not.
                    wrong = self.paper[:index] + [row[:at] + (other,) + row[at + 1:]] + self.paper[index + 1:]
                    lesser = index % 2 == 1 and at == 2 and other == (1, 1) and type(other[0]) is type(other[1]) is int
                    right = lesser and Fraction(*row[1]) < 1 < Fraction(*row[2])
                    self.assert_wrong(index + 1 if right else index, wrong)
            self.assert_wrong(index, self.paper[:index] + [row + (0,)] + self.paper[index + 1:])
            self.assert_wrong(index, self.paper[:index] + [row[:-1]] + self.paper[index + 1:])

    def changed_entries(self, journal):
        for index, entry in enumerate(journal):
            task, step, asked, done = entry
            for other in ((task + 1, step, asked, done), (task, step + 1, asked, done), (task, step, (asked[0] + 1, asked[1]), done),
                          (task, step, asked, (done[0], done[1] + 1)), (task, step, asked, (done[0] - 1, done[1])), (task, step, list(asked), done),
                          (task, step, asked, list(done)), list(entry), entry[:3], entry + (0,), None, (task, step, None, done),
                          (float(task), step, asked, str(done))):
                yield journal[:index] + [other] + journal[index + 1:]
            for place in range(2):
                if entry[place] in (0, 1):
                    yield journal[:index] + [entry[:place] + (bool(entry[place]),) + entry[place + 1:]] + journal[index + 1:]
            for place in range(2, 4):
                for inner in range(2):
                    if entry[place][inner] in (0, 1):
                        pairs = entry[place][:inner] + (bool(entry[place][inner]),) + entry[place][inner + 1:]
                        yield journal[:index] + [entry[:place] + (pairs,) + entry[place + 1:]] + journal[index + 1:]
            yield journal[:index] + journal[index + 1:]
            yield journal[:index + 1] + journal[index:]
        yield tuple(journal)
        yield journal + [journal[-1]]
        yield []
        yield None

    def test_entries_lines_and_times_otherwise(self):
        for index, row in enumerate(self.paper):
            for journal in self.changed_entries(row[-2]):
                self.assert_wrong(index, self.paper[:index] + [row[:-2] + (journal, row[-1])] + self.paper[index + 1:])

    def test_waiting_otherwise(self):
        for index, row in enumerate(self.paper):
            self.assertEqual(row[-1], [(2, 1)])
            for waiting in ([], [(2, 0)], [(1, 1)], [[2, 1]], ((2, 1),), [(2, True)], [(2, 1), (2, 1)], [(2, 1, 0)], [(2,)], None, [None]):
                self.assert_wrong(index, self.paper[:index] + [row[:-1] + (waiting,)] + self.paper[index + 1:])

    def test_ends_of_pieces_otherwise(self):
        for index in range(1, len(self.paper), 2):
            row = self.paper[index]
            low, high = Fraction(*row[1]), Fraction(*row[2])
            for y, wanted in ((low, index), (low - 1, index), ((low + high) / 2, index + 1), (high + Fraction(1, 1000), index), (high + 100, index)):
                wrong = self.paper[:index] + [row[:2] + (pair(y),) + row[3:]] + self.paper[index + 1:]
                self.assert_wrong(wanted, wrong)
            self.assert_wrong(index, self.paper[:index] + [row[:2] + (None,) + row[3:]] + self.paper[index + 1:])

    def test_points_otherwise(self):
        for index in range(0, len(self.paper), 2):
            row = self.paper[index]
            for x in ((Fraction(*row[1]) + 1), Fraction(*row[1]) + Fraction(1, 10 ** 6)):
                other = ("at", pair(x)) + run(self.program, Setting(), "p", pair(x))[:2]
                self.assert_wrong(index, self.paper[:index] + [other] + self.paper[index + 1:])
                other = row[:2] + run(self.program, Setting(), "p", pair(x))[:2]
                self.assert_wrong(index, self.paper[:index] + [other] + self.paper[index + 1:])

    def test_other_ranges_rules_slownesses_programs(self):
        self.assert_check(0, self.paper, (1, 2), (8, 1), self.program)
        self.assert_check(len(self.paper), self.paper, ZERO, (17, 2), self.program)
        self.assert_check(0, self.paper, ZERO, (8, 1), PROGRAM)
        self.assertEqual(check_paper(self.program, Setting(), "q", ZERO, (8, 1), self.paper), 0)
        self.assert_check(0, self.paper, ZERO, (8, 1), self.program, Setting({"r": 2}))
        for setting in (Setting({"p": 7}), Setting({"none": 7}), Setting(rule="number")):
            # The slowness of the part itself, or of one that does not occur, makes no difference; here no rule does.
            self.assert_check(None, self.paper, ZERO, (8, 1), self.program, setting)
        waiters = Program(((("take", "m"), work(9), ("give", "m")), (work(2, "p"), ("take", "m"), ("give", "m")), (work(1), ("take", "m"), work(1), ("give", "m"))))
        paper = make_paper(waiters, Setting(), "p", (1, 1), (2, 1))
        self.assert_check(None, paper, (1, 1), (2, 1), waiters)
        self.assert_check(0, paper, (1, 1), (2, 1), waiters, Setting(rule="number"))

    def test_no_list(self):
        for value in OTHER_VALUES + [tuple(self.paper), {0: self.paper}, iter(self.paper), "paper", 3]:
            if not isinstance(value, list):
                self.assert_wrong(0, value)
        self.assert_wrong(0, [self.paper])

    def test_the_value_stays(self):
        value = copy.deepcopy(self.paper)
        value[3] = value[3][:3] + ([["x"]], [])
        before = copy.deepcopy(value)
        self.assert_wrong(3, value)
        self.assertEqual(value, before)

    def test_what_is_accepted_is_the_profile(self):
        """Whatever is changed in a paper: if it is still accepted, it shows the profile."""
        accepted = 0
        for seed in range(300):
            source = random.Random(seed)
            program, setting = lively_program(seed % 20), some_setting(seed % 20)
            points = points_of(make_paper(program, setting, "p", ZERO, (4, 1)))
            chosen = [x for x in points if source.random() < 0.9 or x in (ZERO, (4, 1))]
            more = [pair(Fraction(source.randint(1, 99), 25)) for index in range(2)]
            chosen = sorted(set(chosen + [x for x in more if Fraction(*x) < 4]), key=lambda x: Fraction(*x))
            paper = own_paper(program, setting, chosen, (4, 1))
            found = check_paper(program, setting, "p", ZERO, (4, 1), paper)
            self.assertEqual(found is None, set(points) <= set(chosen))
            if found is None:
                accepted += 1
                self.assertEqual(read_paper(paper), profile(program, setting, "p", ZERO, (4, 1)))
        self.assertTrue(20 < accepted < 280, accepted)


class Read(PaperTest):
    def test_totals(self):
        paper = make_paper(PROGRAM, Setting(), "p", (1, 1))
        shape = read_paper(paper)
        self.assertEqual(shape.pieces()[1:4], [("between", (1, 1), (3, 2), (2, 12)), ("at", (3, 2), (15, 1)), ("between", (3, 2), (13, 2), (0, 14))])
        for number in range(1, 90):
            x = pair(1 + Fraction(number, 11))
            self.assertEqual(shape(x), wanted_run(PROGRAM, Setting(), "p", x)[2])

    def test_stuck(self):
        program = Program(((work(1, "p"), ("get", "q")), (work(3),)))
        self.assertEqual(read_paper(make_paper(program, Setting(), "p", ZERO)), flat(ZERO, None, None))
        empty = Program(((("get", "q"),),))
        self.assertEqual(make_paper(empty, Setting(), "p", ZERO), [("at", ZERO, [], [(0, 0)]), ("between", ZERO, None, [], [(0, 0)])])
        self.assertEqual(read_paper(make_paper(empty, Setting(), "p", ZERO)), flat(ZERO, None, None))

    def test_the_paper_stays(self):
        paper = make_paper(PROGRAM, Setting(), "p", ZERO)
        before = copy.deepcopy(paper)
        read_paper(paper)
        self.assertEqual(paper, before)


class Errors(PaperTest):
    def test_names_then_ranges(self):
        for function in (make_paper, lambda *values: check_paper(*values, [])):
            for name in NOT_NAMES:
                for low, high in ((ZERO, None), ("x", None), ((1, 1), ZERO)):
                    with self.assertRaises(UnknownName) as caught:
                        function(PROGRAM, Setting(), name, low, high)
                    self.assertIs(caught.exception.name, name)
            for low in NOT_SLOWNESSES:
                for high in (None, (1, 1), "x"):
                    self.assert_range(function, low, high)
            for high in [value for value in NOT_SLOWNESSES if value is not None] + [ZERO, (99, 100)]:
                self.assert_range(function, (1, 1), high)

    def assert_range(self, function, low, high):
        with self.assertRaises(InvalidRange) as caught:
            function(PROGRAM, Setting(), "p", low, high)
        self.assertIs(type(caught.exception.value), tuple)
        self.assertIs(caught.exception.value[0], low)
        self.assertIs(caught.exception.value[1], high)


if __name__ == "__main__":
    unittest.main()
