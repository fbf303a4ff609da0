"""Envelopes: the greatest ones of several lines from 0 on, in ascending order of their slopes."""

from whatiftimes.lines import meeting, value_at


def envelope_of(lines):
    """Return those lines that are the greatest ones somewhere from 0 on."""
    kept = []
    for line in sorted(lines):
        while len(kept) > 0 and is_covered(kept, line):
            kept.pop()
        kept.append(line)
    return kept


def is_covered(kept, line):
    """Tell whether the last line of an envelope is not needed beside one that is not less steep."""
    last = kept[-1]
    if last[1] <= line[1]:
        return True
    if len(kept) == 1:
        return False
    # The last one is the greatest only from where it meets the one ahead of it to where it meets the new one.
    former = kept[-2]
    return (last[1] - line[1]) * (last[0] - former[0]) <= (former[1] - last[1]) * (line[0] - last[0])


def envelope_pieces(lines):
    """Return the pieces of the shape that an envelope has from 0 on."""
    x = (0, 1)
    rows = [("at", x, value_at(lines[0], x))]
    for line, steeper in zip(lines, lines[1:]):
        y = meeting(line, steeper)
        rows.extend([("between", x, y, line), ("at", y, value_at(line, y))])
        x = y
    rows.append(("between", x, None, lines[-1]))
    return rows
