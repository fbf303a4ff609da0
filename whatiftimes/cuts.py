"""Where the choices of runs change: runs directly behind a slowness, and the next cut behind it."""

from whatiftimes.engine import State, finished_state, make_choice
from whatiftimes.fractions import fraction, order_of


def slowness_beside(program, part, x, side):
    """Return a slowness behind x (side 1) or ahead of it (side -1), with no cut from there to x, but for x."""
    amounts = [step[2] for task in program.tasks for step in task if step[:2] == ("work", part)]
    # The slopes of two times differ by less than many. So where two times of the run differ at x, they do so by too
    # much to meet at a distance of one divided by many and by the divisor of x, and where they are the same, their
    # slopes tell which one is less beside x.
    many = sum(amounts) + 1
    return fraction(x[0] * many + side, x[1] * many)


def run_behind(program, setting, part, x, hasty):
    """Return the tuple (state, cut) of the run directly behind x, and of the next cut, None if there is none.

    A hasty run does all works ahead of other steps. A work touches no other task, so all other steps are done in the
    same order and at the same times as ever, and only those slownesses are cuts at which this order changes.
    """
    state = State(program, setting, part, slowness_beside(program, part, x, 1))
    cut = None
    task = next_task(state, hasty)
    while task is not None:
        if not hasty or not state.is_at_work(task):
            cut = nearer_cut(state, task, cut)
        make_choice(state, task)
        task = next_task(state, hasty)
    return (state, None if cut is None else fraction(cut[0], cut[1]))


def next_task(state, hasty):
    """Return the task to be chosen next, None if the run is over."""
    task = state.first_at_work() if hasty else None
    return state.first_ready() if task is None else task


def nearer_cut(state, task, cut):
    """Return the cut, or the slowness at which the time of this task overtakes that of another one, if that is less."""
    slope, base = state.times[task]
    for other, phase in enumerate(state.phases):
        if phase == "ready" and state.times[other][0] < slope:
            number = state.times[other][1] - base
            divisor = slope - state.times[other][0]
            if cut is None or number * cut[1] < cut[0] * divisor:
                cut = (number, divisor)
    return cut


def stretches(program, setting, part, low, high, hasty):
    """Yield the tuples (at, x, state) and (between, x, y, state) of a range, with the runs there that are over."""
    x = low
    while x is not None:
        yield ("at", x, finished_state(program, setting, part, x))
        if x == high:
            return
        state, cut = run_behind(program, setting, part, x, hasty)
        y = cut if high is None or cut is not None and order_of(cut, high) < 0 else high
        yield ("between", x, y, state)
        x = y
