"""Kept orders: when everything is done if all befores stay as in a journal."""

from whatiftimes.envelopes import envelope_of, envelope_pieces
from whatiftimes.errors import Stuck
from whatiftimes.fractions import compared, fraction, require_slowness
from whatiftimes.names import require_name
from whatiftimes.partners import Trail, next_partner
from whatiftimes.runs import run
from whatiftimes.shapes import Shape


def befores(program, journal):
    """Return the list of the tuples (own, partner) of the indexes of the befores of all entries, or None."""
    trail = Trail(program)
    latest = {}
    pairs = []
    for index, entry in enumerate(journal):
        task = entry[0]
        pairs.append((latest.get(task), next_partner(trail, task, entry[1], index)))
        latest[task] = index
    return pairs


def lengths_of(program, setting, part, journal):
    """Return how long each entry of a journal lasts, as lines over the slowness of the part."""
    lengths = []
    for entry in journal:
        steps = program.tasks[entry[0]]
        if entry[1] == len(steps) or steps[entry[1]][0] != "work":
            lengths.append((0, 0))
        elif steps[entry[1]][1] == part:
            lengths.append((steps[entry[1]][2], 0))
        else:
            lengths.append((0, steps[entry[1]][2] * setting.slowness(steps[entry[1]][1])))
    return lengths


def scaled_lengths(program, setting, part, x, journal):
    """Return how long each entry lasts at x, multiplied by the divisor of x, as integers."""
    return [slope * x[0] + base * x[1] for slope, base in lengths_of(program, setting, part, journal)]


def scaled_times(pairs, lengths):
    """Return when each entry is done with kept orders, on the scale of the lengths."""
    times = []
    for (own, partner), length in zip(pairs, lengths):
        start = 0 if own is None else times[own]
        if partner is not None:
            start = max(start, times[partner])
        times.append(start + length)
    return times


def kept_times(program, setting, part, x, journal):
    """Return the list of the times with kept orders at x."""
    require_name(part)
    require_slowness(x)
    lengths = scaled_lengths(program, setting, part, x, journal)
    return [fraction(time, x[1]) for time in scaled_times(befores(program, journal), lengths)]


def kept_total(program, setting, part, journal):
    """Return the shape of the kept total, from 0 on."""
    require_name(part)
    blocked = tasks_without_end(program, journal)
    if len(blocked) > 0:
        raise Stuck(blocked)
    envelopes = []
    for pair, length in zip(befores(program, journal), lengths_of(program, setting, part, journal)):
        # Nothing is done before 0, so this line changes nothing where there are befores.
        lines = [(0, 0)] + [line for before in pair if before is not None for line in envelopes[before]]
        envelopes.append([(line[0] + length[0], line[1] + length[1]) for line in envelope_of(lines)])
    ends = [index for index, entry in enumerate(journal) if entry[1] == len(program.tasks[entry[0]])]
    return Shape(envelope_pieces(envelope_of([line for end in ends for line in envelopes[end]])))


def tasks_without_end(program, journal):
    """Return the numbers of the tasks that have not ended in a journal, in ascending order."""
    ended = {entry[0]: True for entry in journal if entry[1] == len(program.tasks[entry[0]])}
    return [task for task in range(len(program)) if task not in ended]


def finished_journal(program, setting, part, x):
    """Return the journal of the run at x; raise Stuck if it is stuck."""
    journal, waiting, total = run(program, setting, part, x)
    if total is None:
        raise Stuck(waiting)
    return journal


def critical(program, setting, part, x):
    """Return the indexes of a chain of entries of the run at x whose works add up to the total."""
    journal = finished_journal(program, setting, part, x)
    pairs = befores(program, journal)
    chain = []
    index = len(journal) - 1
    while index is not None:
        chain.append(index)
        index = later_before(journal, pairs[index])
    return chain[::-1]


def later_before(journal, pair):
    """Return the partner if it is done later than the own entry ahead, or than 0 without one, else the own entry."""
    own, partner = pair
    start = (0, 1) if own is None else journal[own][3]
    if partner is not None and compared(journal[partner][3], start) > 0:
        return partner
    return own


def slacks(program, setting, part, x):
    """Return for each entry of the run at x by how much it can be done later such that the total stays."""
    journal = finished_journal(program, setting, part, x)
    pairs = befores(program, journal)
    lengths = scaled_lengths(program, setting, part, x, journal)
    times = scaled_times(pairs, lengths)
    tails = tails_of(pairs, lengths)
    return [fraction(times[-1] - time - tail, x[1]) for time, tail in zip(times, tails)]


def tails_of(pairs, lengths):
    """Return the lengths of the longest chains behind all entries."""
    tails = [0] * len(pairs)
    for index in reversed(range(len(pairs))):
        for before in pairs[index]:
            if before is not None:
                tails[before] = max(tails[before], tails[index] + lengths[index])
    return tails
