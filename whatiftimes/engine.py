"""The machine that runs programs, choice by choice.

A run is made at one slowness of one part. All its times are kept as lines over this slowness, so that they can be
told there, and also at other slownesses at which the machine makes the same choices.
"""

from whatiftimes.fractions import fraction


class State:
    """How far a run has come."""

    def __init__(self, program, setting, part, x):
        many = len(program)
        self.setting = setting
        self.part = part
        self.by_number = setting.rule == "number"
        self.x = x
        self.times = [(0, 0)] * many
        # Times are compared as integers: their values at x, multiplied by the divisor of x.
        self.scaled = [0] * many
        self.asks = [(0, 0)] * many
        self.nexts = [0] * many
        self.phases = ["ready"] * many
        self.marks = [0] * many
        self.owners = {}
        self.stores = {}
        # The tasks that wait for the same, in the order in which they began to.
        self.lined_up = {}
        self.now = (0, 0)
        self.scaled_now = 0
        self.entries = []
        self.follow(program)

    def follow(self, program):
        """Do the steps of this program from now on."""
        steps = [step for task in program.tasks for step in task]
        self.source = program
        self.plans = program.tasks
        self.rooms = {step[1]: program.capacity(step[1]) for step in steps if step[0] == "put"}
        self.paces = {name: (0, self.setting.slowness(name)) for name in program.parts()}
        self.paces[self.part] = (1, 0)
        for step in steps:
            if step[0] == "put" or step[0] == "get":
                self.stores.setdefault(step[1], [])

    def duplicate(self):
        """Return a state that is as far and shares nothing that changes."""
        # The present time need not be taken over: each choice begins with that of its task.
        twin = State(self.source, self.setting, self.part, self.x)
        twin.times = list(self.times)
        twin.scaled = list(self.scaled)
        twin.asks = list(self.asks)
        twin.nexts = list(self.nexts)
        twin.phases = list(self.phases)
        twin.marks = list(self.marks)
        twin.owners = dict(self.owners)
        twin.stores = {queue: list(self.stores[queue]) for queue in self.stores}
        twin.lined_up = {reason: list(self.lined_up[reason]) for reason in self.lined_up}
        twin.entries = list(self.entries)
        return twin

    def first_ready(self):
        """Return the ready task that is chosen next, None if the run is over."""
        best = None
        for task, phase in enumerate(self.phases):
            if phase == "ready" and (best is None or self.scaled[task] < self.scaled[best]):
                best = task
        return best

    def first_at_work(self):
        """Return a ready task whose next step is a work, None if there is none."""
        for task, phase in enumerate(self.phases):
            if phase == "ready" and self.is_at_work(task):
                return task
        return None

    def is_at_work(self, task):
        """Tell whether the next step of a task is a work."""
        steps, at = self.plans[task], self.nexts[task]
        return at < len(steps) and steps[at][0] == "work"

    def enter(self, task):
        """Enter the next step of a task as done now, and let the task go on to the step behind it."""
        at = self.nexts[task]
        self.entries.append((task, at, self.asks[task], self.now))
        self.times[task] = self.now
        self.scaled[task] = self.scaled_now
        self.nexts[task] = at + 1
        self.phases[task] = "ready"

    def wait(self, task, reason):
        """Let a task wait; tasks with the same reason wait for the same."""
        self.phases[task] = "waits"
        self.lined_up.setdefault(reason, []).append(task)

    def next_in_line(self, reason):
        """Return the task that goes first of those that wait for this, and let it wait no longer; None without one."""
        line = self.lined_up.get(reason, [])
        if len(line) == 0:
            return None
        return line.pop(line.index(min(line)) if self.by_number else 0)

    def waiting(self):
        """Return the tuples (task, step) of the tasks that wait, in ascending order."""
        return [(task, self.nexts[task]) for task, phase in enumerate(self.phases) if phase == "waits"]

    def total(self):
        """Return the total of a run that is over, as a line, None if it is stuck."""
        if "waits" in self.phases:
            return None
        # Tasks end in the order of time, and the end of a task stands behind all its other steps.
        return self.entries[-1][3]

    def told_total(self):
        """Return the total of a run that is over, as a time, None if it is stuck."""
        total = self.total()
        return None if total is None else self.time_of(total)

    def journal(self):
        """Return the entries so far, with times in the place of lines."""
        return [self.told(entry) for entry in self.entries]

    def time_of(self, line):
        """Return the time that a line tells, as a fraction."""
        return fraction(line[0] * self.x[0] + line[1] * self.x[1], self.x[1])

    def told(self, entry):
        """Return an entry with times in the place of lines."""
        return (entry[0], entry[1], self.time_of(entry[2]), self.time_of(entry[3]))


def do_work(state, task, step):
    """Work: the step is done as much later as it lasts."""
    slope, base = state.paces[step[1]]
    time = state.now
    state.now = (time[0] + slope * step[2], time[1] + base * step[2])
    state.scaled_now = state.now[0] * state.x[0] + state.now[1] * state.x[1]
    state.enter(task)


def do_take(state, task, step):
    """Take a lock, or wait for it."""
    if step[1] in state.owners:
        state.wait(task, step)
    else:
        state.owners[step[1]] = task
        state.enter(task)


def do_give(state, task, step):
    """Give a lock, if the task has it; the first task that waits for it takes it at once."""
    state.enter(task)
    if state.owners.get(step[1]) == task:
        del state.owners[step[1]]
        taker = state.next_in_line(("take", step[1]))
        if taker is not None:
            state.owners[step[1]] = taker
            state.enter(taker)


def do_put(state, task, step):
    """Put a value into a queue, or wait for room."""
    if len(state.stores[step[1]]) < state.rooms[step[1]]:
        put_item(state, task, step)
    else:
        state.wait(task, ("put", step[1]))


def do_get(state, task, step):
    """Get a value from a queue, or wait for one."""
    if len(state.stores[step[1]]) > 0:
        get_item(state, task, step[1])
    else:
        state.wait(task, step)


def put_item(state, task, step):
    """Put a value into a queue that has room; the first task that waits for a value gets one at once."""
    state.stores[step[1]].append(step[2])
    state.enter(task)
    getter = state.next_in_line(("get", step[1]))
    if getter is not None:
        get_item(state, getter, step[1])


def get_item(state, task, queue):
    """Get the first value of a queue; the first task that waits for room puts its value at once."""
    state.marks[task] = state.stores[queue].pop(0)
    state.enter(task)
    putter = state.next_in_line(("put", queue))
    if putter is not None:
        put_item(state, putter, state.plans[putter][state.nexts[putter]])


def do_skip(state, task, step):
    """Leave out the next steps, if the value is the one that was got last."""
    state.enter(task)
    if state.marks[task] == step[1]:
        state.nexts[task] = min(state.nexts[task] + step[2], len(state.plans[task]))


def do_await(state, task, step):
    """Go on if a task has ended, or wait for its end."""
    if state.phases[step[1]] == "ended":
        state.enter(task)
    else:
        state.wait(task, step)


def end_task(state, task):
    """End a task; all tasks that await it go on at once."""
    state.enter(task)
    state.phases[task] = "ended"
    waiter = state.next_in_line(("await", task))
    while waiter is not None:
        state.enter(waiter)
        waiter = state.next_in_line(("await", task))


ACTIONS = {
    "work": do_work,
    "take": do_take,
    "give": do_give,
    "put": do_put,
    "get": do_get,
    "skip": do_skip,
    "await": do_await,
}


def make_choice(state, task):
    """Let a ready task do its next step, or end, with all that follows at once."""
    state.now = state.times[task]
    state.scaled_now = state.scaled[task]
    state.asks[task] = state.now
    steps, at = state.plans[task], state.nexts[task]
    if at == len(steps):
        end_task(state, task)
    else:
        action = ACTIONS[steps[at][0]]
        action(state, task, steps[at])


def run_to_end(state):
    """Make all choices that are left."""
    task = state.first_ready()
    while task is not None:
        make_choice(state, task)
        task = state.first_ready()


def finished_state(program, setting, part, x):
    """Return the state of a run that is over."""
    state = State(program, setting, part, x)
    run_to_end(state)
    return state
