"""Tests of whatiftimes.orders."""

import copy
import random
import unittest
from fractions import Fraction

from tests.reference import pair, some_program, some_setting, some_slowness
from tests.values import NOT_NAMES, NOT_SLOWNESSES
from whatiftimes.errors import InvalidNumber, Stuck, UnknownName
from whatiftimes.orders import befores, critical, kept_times, kept_total, slacks
from whatiftimes.programs import Program
from whatiftimes.runs import run
from whatiftimes.settings import Setting
from whatiftimes.shapes import Shape

A = (("work", "p", 2), ("take", "m"), ("work", "q", 1), ("give", "m"))
B = (("work", "r", 3), ("take", "m"), ("work", "q", 1), ("give", "m"), ("work", "s", 10))
ONE = (1, 1)
STUCK = Program(((("work", "p", 1), ("get", "q")), (), (("await", 0),)))

OTHER_SLOWNESSES = [(0, 1), (1, 3), (1, 1), (5, 2), (9, 1), (10 ** 9, 7), (10 ** 40, 1)]


def work(amount, part="w"):
    return ("work", part, amount)


def length_of(program, setting, part, x, entry):
    steps = program.tasks[entry[0]]
    if entry[1] == len(steps) or steps[entry[1]][0] != "work":
        return Fraction(0)
    kind, name, amount = steps[entry[1]]
    return amount * (Fraction(*x) if name == part else Fraction(setting.slowness(name)))


def wanted_befores(program, journal):
    """The befores, looked for anew for each entry in the words of the document."""
    def step(entry):
        return program.tasks[entry[0]][entry[1]] if entry[1] < len(program.tasks[entry[0]]) else ("end", entry[0])

    def had_lock(index):
        """Whether the task of a give has taken the lock last and has not given it since."""
        events = [entry[0:1] + step(entry)[:1] for entry in journal[:index] if step(entry)[1:2] == step(journal[index])[1:2]
                  and step(entry)[0] in ("take", "give") and entry[0] == journal[index][0]]
        return bool(events) and events[-1][1] == "take"

    out = []
    for index, entry in enumerate(journal):
        mine = step(entry)
        own = max([at for at in range(index) if journal[at][0] == entry[0]], default=None)
        partner = None
        if mine[0] == "take":
            gives = [at for at in range(index) if step(journal[at]) == ("give", mine[1]) and had_lock(at)]
            partner = gives[-1] if gives else None
        elif mine[0] in ("get", "put"):
            puts = [at for at, each in enumerate(journal) if step(each)[:2] == ("put", mine[1])]
            gets = [at for at, each in enumerate(journal) if step(each)[:2] == ("get", mine[1])]
            if mine[0] == "get":
                partner = puts[gets.index(index)]
            else:
                number = puts.index(index) - program.capacity(mine[1])
                partner = gets[number] if number >= 0 else None
        elif mine[0] == "await":
            partner = [at for at, each in enumerate(journal) if step(each) == ("end", mine[1])][0]
        out.append((own, partner))
    return out


def wanted_times(program, setting, part, x, journal, late=None, by=0):
    """The times with kept orders, if the entry late is done later by so much."""
    times = []
    for index, (own, partner) in enumerate(wanted_befores(program, journal)):
        start = max([times[before] for before in (own, partner) if before is not None], default=Fraction(0))
        times.append(start + length_of(program, setting, part, x, journal[index]) + (by if index == late else 0))
    return times


def cases(many, ended=False):
    """Programs with settings, slownesses and journals."""
    for seed in range(many):
        program, setting, x = some_program(seed), some_setting(seed), some_slowness(seed)
        journal, waiting, total = run(program, setting, "p", x)
        if not (ended and waiting):
            yield program, setting, x, journal


class OrderTest(unittest.TestCase):
    def assert_blocked(self, blocked, function, *values):
        with self.assertRaises(Stuck) as caught:
            function(*values)
        self.assertEqual(caught.exception.blocked, blocked)
        self.assertIs(type(caught.exception.blocked), list)


class Examples(OrderTest):
    def test_of_the_document(self):
        program = Program((A, B))
        journal = run(program, Setting(), "p", (1, 1))[0]
        found = (kept_total(program, Setting(), "p", journal).pieces(), critical(program, Setting(), "p", (5, 4)))
        self.assertEqual(found, (
            [("at", (0, 1), (14, 1)), ("between", (0, 1), (1, 1), (0, 14)), ("at", (1, 1), (14, 1)), ("between", (1, 1), None, (2, 12))],
            [0, 2, 3, 4, 5, 7, 8, 9, 10]))

    def test_kept_order_differs_from_the_run(self):
        program = Program((A, B))
        journal = run(program, Setting(), "p", (1, 1))[0]
        # The second task still takes the lock behind the first one, however late that is.
        self.assertEqual(kept_times(program, Setting(), "p", (9, 1), journal)[-1], (30, 1))
        self.assertEqual(run(program, Setting(), "p", (9, 1))[2], (19, 1))

    def test_slacks(self):
        program = Program((A, B))
        found = slacks(program, Setting(), "p", (5, 4))
        self.assertEqual(found, [(0, 1), (1, 2)] + [(0, 1)] * 4 + [(11, 1)] + [(0, 1)] * 4)


class Befores(OrderTest):
    def assert_befores(self, tasks, wanted, capacities=None, rule="turn"):
        program = Program(tasks, capacities)
        journal = run(program, Setting(rule=rule), "p", ONE)[0]
        found = befores(program, journal)
        self.assertEqual(found, wanted)
        self.assertEqual(wanted_befores(program, journal), wanted)

    def test_own_entries(self):
        self.assert_befores(((work(1), work(1)), (work(1),)), [(None, None), (None, None), (0, None), (1, None), (2, None)])

    def test_takes(self):
        # 0 take, 1 work, 2 give, 3 take of task 1 at once, 4 end, 5 give, 6 take of task 2, ..
        lock = (("take", "m"), ("give", "m"))
        self.assert_befores(((("take", "m"), work(1), ("give", "m")), lock, lock), [
            (None, None), (0, None), (1, None), (None, 2), (2, None), (3, None), (None, 5), (5, None), (6, None), (8, None)])

    def test_give_without_the_lock_is_no_partner(self):
        self.assert_befores(((("take", "m"), ("give", "m"), work(1)), (("give", "m"), ("give", "m"), ("take", "m"))), [
            (None, None), (0, None), (1, None), (None, None), (3, None), (4, 1), (5, None), (2, None)])

    def test_own_give(self):
        self.assert_befores(((("take", "m"), ("give", "m"), ("give", "m"), ("take", "m")),),
                            [(None, None), (0, None), (1, None), (2, 1), (3, None)])

    def test_gets_and_puts_with_capacity_one(self):
        self.assert_befores(((("put", "q", 1), ("put", "q", 2)), (work(1), ("get", "q"), ("get", "q"))), [
            (None, None), (None, None), (1, 0), (0, 2), (3, None), (2, 3), (5, None)])

    def test_gets_and_puts_with_greater_capacities(self):
        puts, gets = (("put", "q", 1),) * 4, (work(1),) + (("get", "q"),) * 4
        self.assert_befores((puts, gets), [
            (None, None), (0, None), (1, None), (None, None), (3, 0), (2, 4), (5, None), (4, 1), (7, 2), (8, 5), (9, None)], {"q": 3})
        self.assert_befores((puts, gets), [
            (None, None), (0, None), (1, None), (2, None), (3, None), (None, None), (5, 0), (6, 1), (7, 2), (8, 3), (9, None)], {"q": 4})

    def test_queue_that_nothing_is_got_from(self):
        self.assert_befores(((("put", "q", 1), ("put", "q", 2)), (("get", "r"),)), [(None, None), (0, None), (1, None)], {"q": 2})
        self.assert_befores(((("put", "q", 1), ("put", "q", 2)), (("get", "r"),)), [(None, None)])

    def test_own_put(self):
        self.assert_befores(((("put", "q", 1), ("get", "q"), ("put", "q", 1)),), [(None, None), (0, 0), (1, 1), (2, None)])

    def test_awaits_and_ends(self):
        self.assert_befores(((work(1),), (("await", 0),), (work(2), ("await", 0), ("await", 1))), [
            (None, None), (None, None), (0, None), (None, 2), (3, None), (1, 2), (5, 4), (6, None)])

    def test_skips(self):
        self.assert_befores(((("skip", 0, 1), work(1), work(2)),), [(None, None), (0, None), (1, None)])

    def test_against_the_words(self):
        partners = 0
        for program, setting, x, journal in cases(300):
            found = befores(program, journal)
            self.assertEqual(found, wanted_befores(program, journal))
            partners += sum(partner is not None for own, partner in found)
            for index, entry in enumerate(found):
                self.assertTrue(all(before is None or 0 <= before < index for before in entry))
        self.assertGreater(partners, 500)

    def test_empty_journal_and_results(self):
        self.assertEqual(befores(Program(((("get", "q"),),)), []), [])
        program = Program((A, B))
        journal = run(program, Setting(), "p", ONE)[0]
        before = copy.deepcopy(journal)
        befores(program=program, journal=journal).clear()
        self.assertEqual(journal, before)
        self.assertEqual(len(befores(program, journal)), len(journal))


class KeptTimes(OrderTest):
    def test_at_the_slowness_of_the_journal(self):
        for program, setting, x, journal in cases(300):
            self.assertEqual(kept_times(program, setting, "p", x, journal), [entry[3] for entry in journal])

    def test_at_other_slownesses(self):
        for program, setting, x, journal in cases(150):
            for other in OTHER_SLOWNESSES:
                wanted = [pair(time) for time in wanted_times(program, setting, "p", other, journal)]
                self.assertEqual(kept_times(program, setting, "p", other, journal), wanted)

    def test_by_name_and_new(self):
        program = Program((A, B))
        journal = run(program, Setting(), "p", ONE)[0]
        found = kept_times(journal=journal, x=ONE, part="p", setting=Setting(), program=program)
        self.assertEqual(found, [entry[3] for entry in journal])
        found.clear()
        self.assertEqual(len(kept_times(program, Setting(), "p", ONE, journal)), 11)
        self.assertEqual(kept_times(STUCK, Setting(), "p", (5, 1), run(STUCK, Setting(), "p", ONE)[0]), [(5, 1), (0, 1)])


class KeptTotal(OrderTest):
    def test_against_kept_times(self):
        corners = 0
        for program, setting, x, journal in cases(200, ended=True):
            shape = kept_total(program, setting, "p", journal)
            self.assertEqual((shape.low, shape.high), ((0, 1), None))
            points = [piece[1] for piece in shape.pieces() if piece[0] == "at"]
            between = [pair((Fraction(*low) + Fraction(*high)) / 2) for low, high in zip(points, points[1:])]
            corners += len(between)
            for other in OTHER_SLOWNESSES + points + between + [pair(Fraction(*points[-1]) + 1)]:
                self.assertEqual(shape(other), pair(max(wanted_times(program, setting, "p", other, journal))))
        self.assertGreater(corners, 20)

    def test_never_falls_and_is_never_less_steep(self):
        for program, setting, x, journal in cases(200, ended=True):
            pieces = kept_total(program, setting, "p", journal).pieces()
            slopes = [piece[3][0] for piece in pieces if piece[0] == "between"]
            self.assertEqual(slopes, sorted(set(slopes)))
            self.assertGreaterEqual(slopes[0], 0)
            self.assertEqual(kept_total(program, setting, "p", journal).falls(), [])

    def test_several_corners(self):
        tasks = tuple((work(amount, "p"), work(20 - amount * amount, "w")) for amount in (0, 1, 2, 3, 4))
        program = Program(tasks)
        journal = run(program, Setting(), "p", ONE)[0]
        shape = kept_total(program, Setting(), "p", journal)
        self.assertEqual([piece[1:] for piece in shape.pieces() if piece[0] == "between"], [
            ((0, 1), (1, 1), (0, 20)), ((1, 1), (3, 1), (1, 19)), ((3, 1), (5, 1), (2, 16)), ((5, 1), (7, 1), (3, 11)), ((7, 1), None, (4, 4))])

    def test_greatest_of_many_lines(self):
        for seed in range(300):
            source = random.Random(seed)
            most = source.choice((4, 9, 30))
            lines = [(source.randint(0, most), source.randint(0, most)) for index in range(6)]
            program = Program(tuple((work(slope, "p"), work(base)) for slope, base in lines))
            shape = kept_total(program, Setting(), "p", run(program, Setting(), "p", ONE)[0])
            meetings = {Fraction(d - b, a - c) for a, b in lines for c, d in lines if a != c}
            corners = sorted(x for x in meetings | {Fraction(0)} if x >= 0)
            between = [(low + high) / 2 for low, high in zip(corners, corners[1:])]
            for x in corners + between + [corners[-1] + 1]:
                self.assertEqual(shape(pair(x)), pair(max(slope * x + base for slope, base in lines)))

    def test_lines_through_one_point(self):
        program = Program(((work(4),), (work(1, "p"), work(3)), (work(2, "p"), work(2)), (work(4, "p"),)))
        journal = run(program, Setting(), "p", ONE)[0]
        self.assertEqual(kept_total(program, Setting(), "p", journal).pieces(), [
            ("at", (0, 1), (4, 1)), ("between", (0, 1), (1, 1), (0, 4)), ("at", (1, 1), (4, 1)), ("between", (1, 1), None, (4, 0))])

    def test_without_the_part_and_without_works(self):
        program = Program((A, B))
        journal = run(program, Setting(), "p", ONE)[0]
        self.assertEqual(kept_total(program, Setting({"p": 3}), "none", journal)((5, 1)), (18, 1))
        empty = Program(((), ()))
        self.assertEqual(kept_total(empty, Setting(), "p", run(empty, Setting(), "p", ONE)[0]).pieces(), [
            ("at", (0, 1), (0, 1)), ("between", (0, 1), None, (0, 0))])

    def test_great_amounts(self):
        program = Program(((work(10 ** 30, "p"), work(1)), (work(10 ** 30),)))
        journal = run(program, Setting({"w": 10 ** 6}), "p", ONE)[0]
        shape = kept_total(program, Setting({"w": 10 ** 6}), "p", journal)
        self.assertEqual(shape.pieces()[2], ("at", (10 ** 30 - 1, 10 ** 24), (10 ** 36, 1)))

    def test_kind_and_names(self):
        program = Program((A, B))
        journal = run(program, Setting(), "p", ONE)[0]
        self.assertIs(type(kept_total(journal=journal, part="p", setting=Setting(), program=program)), Shape)

    def test_stuck(self):
        self.assert_blocked([0, 2], kept_total, STUCK, Setting(), "p", run(STUCK, Setting(), "p", ONE)[0])
        program = Program((A, B))
        journal = run(program, Setting(), "p", ONE)[0]
        self.assert_blocked([0, 1], kept_total, program, Setting(), "p", [])
        self.assert_blocked([1], kept_total, program, Setting(), "p", journal[:-1])


class Critical(OrderTest):
    def test_against_the_words(self):
        partners = 0
        for program, setting, x, journal in cases(400, ended=True):
            chain = critical(program, setting, "p", x)
            pairs = wanted_befores(program, journal)
            self.assertEqual(chain[-1], len(journal) - 1)
            self.assertEqual(chain, sorted(set(chain)))
            total = sum([length_of(program, setting, "p", x, journal[index]) for index in chain], Fraction(0))
            self.assertEqual(pair(total), journal[-1][3])
            for index, ahead in zip(chain[1:], chain):
                own, partner = pairs[index]
                start = Fraction(0) if own is None else Fraction(*journal[own][3])
                later = partner is not None and Fraction(*journal[partner][3]) > start
                self.assertEqual(ahead, partner if later else own)
                partners += later
            own, partner = pairs[chain[0]]
            self.assertIsNone(own)
            self.assertTrue(partner is None or journal[partner][3] == (0, 1))
        self.assertGreater(partners, 100)

    def test_partner_later_at_the_same_time_and_earlier(self):
        def chain(first, second):
            program = Program(((("take", "m"), work(first), ("give", "m")), (work(second), ("take", "m"), work(5))))
            return [program, critical(program, Setting(), "p", ONE)]
        # The journals: take, work, work, give, .. and so on.
        program, found = chain(4, 2)
        self.assertEqual([run(program, Setting(), "p", ONE)[0][index][:2] for index in found],
                         [(0, 0), (0, 1), (0, 2), (1, 1), (1, 2), (1, 3)])
        program, found = chain(4, 4)
        self.assertEqual([run(program, Setting(), "p", ONE)[0][index][:2] for index in found], [(1, 0), (1, 1), (1, 2), (1, 3)])
        program, found = chain(2, 4)
        self.assertEqual([run(program, Setting(), "p", ONE)[0][index][:2] for index in found], [(1, 0), (1, 1), (1, 2), (1, 3)])

    def test_partner_without_an_own_entry(self):
        program = Program(((work(3), ("put", "q", 1)), (("get", "q"), work(2))))
        journal = run(program, Setting(), "p", ONE)[0]
        self.assertEqual([journal[index][:2] for index in critical(program, Setting(), "p", ONE)],
                         [(0, 0), (0, 1), (1, 0), (1, 1), (1, 2)])
        program = Program(((("put", "q", 1),), (("get", "q"), work(2))))
        journal = run(program, Setting(), "p", ONE)[0]
        self.assertEqual([journal[index][:2] for index in critical(program, Setting(), "p", ONE)], [(1, 0), (1, 1), (1, 2)])

    def test_last_entry_alone(self):
        self.assertEqual(critical(Program(((), ())), Setting(), "p", ONE), [1])

    def test_stuck(self):
        self.assert_blocked([(0, 1), (2, 0)], critical, STUCK, Setting(), "p", ONE)

    def test_by_name_and_new(self):
        named = {"x": ONE, "part": "p", "setting": Setting(), "program": Program((A, B))}
        critical(**named).clear()
        self.assertEqual(critical(**named)[-1], 10)


class Slacks(OrderTest):
    def test_delays(self):
        for program, setting, x, journal in cases(90, ended=True):
            total = Fraction(*journal[-1][3])
            found = slacks(program, setting, "p", x)
            self.assertEqual(len(found), len(journal))
            for index, slack in enumerate(found):
                self.assertGreaterEqual(slack[0], 0)
                slack = Fraction(*slack)
                self.assertEqual(max(wanted_times(program, setting, "p", x, journal, index, slack)), total)
                more = slack + Fraction(1, 1000)
                self.assertEqual(max(wanted_times(program, setting, "p", x, journal, index, more)), total + Fraction(1, 1000))

    def test_none_along_the_critical_chain(self):
        for program, setting, x, journal in cases(200, ended=True):
            found = slacks(program, setting, "p", x)
            for index in critical(program, setting, "p", x):
                self.assertEqual(found[index], (0, 1))

    def test_plain_ones(self):
        program = Program(((work(3, "p"),), (work(5), work(1))))
        self.assertEqual(slacks(program, Setting(), "p", (1, 2)), [(9, 2), (0, 1), (9, 2), (0, 1), (0, 1)])

    def test_stuck(self):
        self.assert_blocked([(0, 1), (2, 0)], slacks, STUCK, Setting(), "p", ONE)

    def test_by_name_and_new(self):
        named = {"x": ONE, "part": "p", "setting": Setting(), "program": Program((A, B))}
        slacks(**named).clear()
        self.assertEqual(len(slacks(**named)), 11)


class Errors(OrderTest):
    def test_names_then_numbers_then_stuck(self):
        journal = run(STUCK, Setting(), "p", ONE)[0]
        functions = (critical, slacks, lambda *values: kept_times(*values, journal))
        for name in NOT_NAMES:
            for function in functions:
                for x in (ONE, "x", (-1, 1)):
                    with self.assertRaises(UnknownName) as caught:
                        function(STUCK, Setting(), name, x)
                    self.assertIs(caught.exception.name, name)
            with self.assertRaises(UnknownName) as caught:
                kept_total(STUCK, Setting(), name, journal)
            self.assertIs(caught.exception.name, name)
        for x in NOT_SLOWNESSES:
            for function in functions:
                with self.assertRaises(InvalidNumber) as caught:
                    function(STUCK, Setting(), "p", x)
                self.assertIs(caught.exception.value, x)


if __name__ == "__main__":
    unittest.main()
