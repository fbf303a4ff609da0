"""A second machine, written for the tests alone from the words of the document, and programs to run on it."""

import random
from fractions import Fraction

from whatiftimes.programs import Program
from whatiftimes.settings import Setting


def pair(quotient):
    """Python's own fraction as one of the program."""
    quotient = Fraction(quotient)
    return (quotient.numerator, quotient.denominator)


class Reference:
    """One run, made choice by choice; times are Python's own fractions. Its program may be exchanged on the way."""

    def __init__(self, program, setting, part, x):
        self.program = program
        self.setting = setting
        self.part = part
        self.x = Fraction(*x)
        many = len(program.tasks)
        self.time = [Fraction(0)] * many
        self.at = [0] * many
        self.register = [0] * many
        self.asked = [None] * many
        self.status = ["ready"] * many
        self.waiting_since = {}
        self.lock = {}
        self.queue = {}
        self.journal = []
        self.chosen = []

    def slowness(self, part):
        return self.x if part == self.part else self.setting.slowness(part)

    def finish(self):
        while "ready" in self.status:
            self.choose()
        return self

    def ready(self):
        return [(pair(t), task) for t, task in sorted((self.time[task], task) for task in range(len(self.at))
                                                      if self.status[task] == "ready")]

    def waiting(self):
        return [(task, self.at[task]) for task in range(len(self.at)) if self.status[task] == "waits"]

    def current(self, task):
        return self.program.tasks[task][self.at[task]]

    def choose(self):
        t, task = min((self.time[task], task) for task in range(len(self.at)) if self.status[task] == "ready")
        self.chosen.append(task)
        self.asked[task] = t
        if self.at[task] == len(self.program.tasks[task]):
            self.enter(task, t)
            self.status[task] = "ended"
            self.wake(t, ("await", task), everyone=True)
        elif self.may_go(task):
            self.do(task, t)
        else:
            self.status[task] = "waits"
            self.waiting_since[task] = len(self.chosen)

    def may_go(self, task):
        step = self.current(task)
        if step[0] == "take":
            return self.lock.get(step[1]) is None
        if step[0] == "put":
            return len(self.queue.get(step[1], [])) < self.program.capacity(step[1])
        if step[0] == "get":
            return len(self.queue.get(step[1], [])) > 0
        if step[0] == "await":
            return self.status[step[1]] == "ended"
        return True

    def enter(self, task, done):
        self.journal.append((task, self.at[task], pair(self.asked[task]), pair(done)))
        self.time[task] = done

    def do(self, task, t):
        """The current step of a task that may go on, and what follows at once."""
        step = self.current(task)
        self.enter(task, t + step[2] * self.slowness(step[1]) if step[0] == "work" else t)
        self.at[task] += 1
        self.status[task] = "ready"
        if step[0] == "take":
            self.lock[step[1]] = task
        elif step[0] == "give" and self.lock.get(step[1]) == task:
            self.lock[step[1]] = None
            self.wake(t, ("take", step[1]))
        elif step[0] == "put":
            self.queue.setdefault(step[1], []).append(step[2])
            self.wake(t, ("get", step[1]))
        elif step[0] == "get":
            self.register[task] = self.queue[step[1]].pop(0)
            self.wake(t, ("put", step[1]))
        elif step[0] == "skip" and self.register[task] == step[1]:
            self.at[task] = min(self.at[task] + step[2], len(self.program.tasks[task]))

    def wake(self, t, what, everyone=False):
        found = [task for task in range(len(self.at)) if self.status[task] == "waits" and self.current(task)[:2] == what]
        if self.setting.rule == "turn":
            found.sort(key=self.waiting_since.get)
        for task in found if everyone else found[:1]:
            self.do(task, t)

    def result(self):
        total = None if self.waiting() else pair(max(self.time))
        return (self.journal, self.waiting(), total)


def wanted_run(program, setting, part, x):
    return Reference(program, setting, part, x).finish().result()


def wanted_choices(program, setting, part, x):
    return Reference(program, setting, part, x).finish().chosen


PARTS = ("p", "r", "s")


def some_task(source, number, many):
    """A task that works, often between taking and giving, putting and getting."""
    steps = []
    while len(steps) < source.randint(1, 14):
        kind = source.choice(("work", "work", "lock", "lock", "put", "get", "skip", "await", "give"))
        if kind == "work":
            steps.append(("work", source.choice(PARTS), source.randint(0, 6)))
        elif kind == "lock":
            lock = source.choice(("m", "n"))
            steps += [("take", lock), ("work", source.choice(PARTS), source.randint(0, 5)), ("give", lock)]
        elif kind == "put":
            steps.append(("put", source.choice(("q", "m")), source.randint(0, 2)))
        elif kind == "get":
            steps.append(("get", source.choice(("q", "m"))))
        elif kind == "skip":
            steps.append(("skip", source.randint(0, 2), source.randint(1, 3)))
        elif kind == "await" and source.random() < 0.3:
            # Mostly of a task with a greater number, so that few runs are stuck.
            steps.append(("await", source.randint(min(number + 1, many - 1), many - 1)))
        elif kind == "give" and source.random() < 0.3:
            steps.append(("give", source.choice(("m", "n"))))
    return steps[:20]


def balanced(tasks):
    """The tasks with puts in the last one for all gets, and the other way round, as far as there is room."""
    for queue in ("q", "m"):
        puts = sum(step[:2] == ("put", queue) for task in tasks for step in task)
        gets = sum(step[:2] == ("get", queue) for task in tasks for step in task)
        more = [("put", queue, 1)] * (gets - puts) + [("get", queue)] * (puts - gets)
        tasks[-1] += more[:20 - len(tasks[-1])]
    return tasks


def some_program(seed):
    """A program, always the same for the same seed."""
    source = random.Random(seed)
    many = source.randint(1, 6)
    tasks = balanced([some_task(source, number, many) for number in range(many)])
    capacities = {queue: source.randint(1, 3) for queue in ("q", "m") if source.random() < 0.7}
    return Program(tuple(tuple(task) for task in tasks), capacities)


def some_setting(seed):
    source = random.Random(seed)
    slownesses = {name: source.randint(0, 3) for name in PARTS if source.random() < 0.6}
    return Setting(slownesses, rule=source.choice(("turn", "number")))


def some_slowness(seed):
    source = random.Random(seed)
    return pair(Fraction(source.randint(0, 12), source.randint(1, 6)))


def lively_task(source, puts, gets, amounts):
    """A task that works and takes locks, puts so many values in its first half and gets so many in its second one."""
    first = ["work", "lock"] * source.randint(0, 1) + ["both"] * (source.random() < 0.15) + ["put"] * puts
    second = ["work", "lock"] * source.randint(0, 1) + ["get"] * gets
    source.shuffle(first)
    source.shuffle(second)
    steps = []
    for kind in ["work"] + first + second:
        parts = [("work", source.choice(PARTS), source.randint(*amounts)) for index in range(2)]
        locks = source.sample(("m", "n"), 2)
        if kind == "work":
            steps += parts[:1]
        elif kind == "lock":
            steps += [("take", locks[0]), parts[0], ("give", locks[0])]
        elif kind == "both":
            steps += [("take", locks[0]), parts[0], ("take", locks[1]), ("give", locks[0]), ("give", locks[1])]
        elif kind == "put":
            steps.append(("put", "q", source.randint(0, 2)))
        else:
            steps += [("get", "q"), ("skip", source.randint(0, 2), 1), parts[0]]
    return tuple(steps[:20])


def lively_program(seed):
    """A program that is seldom stuck and whose total often changes with the order of events."""
    source = random.Random(seed)
    many = source.randint(2, 6)
    shared = source.randint(0, 5)
    puts, gets = [0] * many, [0] * many
    for index in range(shared):
        puts[source.randrange(many)] += 1
        gets[source.randrange(many)] += 1
    amounts = source.choice(((0, 6), (1, 3), (1, 40), (0, 10 ** 6)))
    tasks = tuple(lively_task(source, puts[number], min(gets[number], 3), amounts) for number in range(many))
    return Program(tasks, {"q": source.choice((1, 2, 5, 5, 9))})


def crowded_program(seed):
    """Six tasks that take one of two locks again and again, each time for another while."""
    source = random.Random(seed)
    tasks = []
    for number in range(6):
        steps = []
        for turn in range(5):
            lock = source.choice("mn")
            works = [("work", source.choice("pq"), source.randint(1, 1000)) for index in range(2)]
            steps += [("take", lock), works[0], ("give", lock), works[1]]
        tasks.append(tuple(steps))
    return Program(tuple(tasks))
