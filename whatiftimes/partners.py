"""Partners: the entries of other tasks, or of the same one, for which entries of a journal have waited."""


class Trail:
    """What the entries of a journal so far leave for the partners of later ones, by the indexes of the entries."""

    def __init__(self, program):
        # Where nothing is put, nothing is got: no entry of a journal has such a queue.
        queues = [step[1] for task in program.tasks for step in task if step[0] == "put"]
        self.plans = program.tasks
        self.rooms = {queue: program.capacity(queue) for queue in queues}
        self.owners = {}
        self.gives = {}
        self.puts = {queue: [] for queue in queues}
        self.gets = {queue: [] for queue in queues}
        self.ends = {}


def after_nothing(trail, task, step, index):
    """A work or a skip has no partner."""
    return None


def after_give(trail, task, step, index):
    """The partner of a take is the last give by a task that had the lock."""
    trail.owners[step[1]] = task
    return trail.gives.get(step[1])


def giving(trail, task, step, index):
    """A give has no partner; it can be one only if the task had the lock."""
    if trail.owners.get(step[1]) == task:
        del trail.owners[step[1]]
        trail.gives[step[1]] = index
    return None


def after_get(trail, task, step, index):
    """The partner of a put is the get that made room for it, if it needed one."""
    trail.puts[step[1]].append(index)
    number = len(trail.puts[step[1]]) - trail.rooms[step[1]]
    return trail.gets[step[1]][number - 1] if number > 0 else None


def after_put(trail, task, step, index):
    """The partner of a get is the put of the same item."""
    trail.gets[step[1]].append(index)
    return trail.puts[step[1]][len(trail.gets[step[1]]) - 1]


def after_end(trail, task, step, index):
    """The partner of an await is the end of that task."""
    return trail.ends[step[1]]


PARTNERS = {
    "work": after_nothing,
    "take": after_give,
    "give": giving,
    "put": after_get,
    "get": after_put,
    "skip": after_nothing,
    "await": after_end,
}


def next_partner(trail, task, at, index):
    """Return the partner of the next entry of a journal, None if it has none, and note the entry in the trail."""
    if at == len(trail.plans[task]):
        trail.ends[task] = index
        return None
    step = trail.plans[task][at]
    partner = PARTNERS[step[0]]
    return partner(trail, task, step, index)
