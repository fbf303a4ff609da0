"""Journals as texts: one row with a check number for each entry."""

from whatiftimes.errors import InvalidText
from whatiftimes.machines import Machine
from whatiftimes.numerals import fraction_of, fraction_word, whole_of
from whatiftimes.same import is_same

CHECK_MODULUS = 9973


def check_number(body):
    """Return the check number of what stands ahead of the hash sign of a row."""
    return sum([ord(sign) * place for place, sign in enumerate(body, start=1)]) % CHECK_MODULUS


def write_journal(journal):
    """Return the text of a journal."""
    return "".join([journal_row(entry) for entry in journal])


def journal_row(entry):
    """Return the row of an entry, with its newline."""
    task, step, asked, done = entry
    body = f"{task} {step} {fraction_word(asked)} {fraction_word(done)} "
    return body + "#" + str(check_number(body)) + "\n"


def read_journal(program, text):
    """Return the tuple (journal, why) of the entries of the first good rows of any text, and why they end."""
    if not isinstance(text, str):
        raise InvalidText(None)
    rows = text.split("\n")
    # What stands behind the last newline is a row that is not complete.
    rest = rows.pop()
    journal = []
    for row in rows:
        entry, told, wanted = read_row(program, row)
        if entry is None:
            return (journal, "form")
        if told != wanted:
            return (journal, "sum")
        journal.append(entry)
    return (journal, "end" if rest == "" else "torn")


def read_row(program, row):
    """Return the entry of a row, the check number that it tells and the right one; three None if it is no row."""
    body, mark, number = row.partition("#")
    told = whole_of(number)
    words = body.split(" ")
    if told is None or len(words) != 5 or words[4] != "":
        return (None, None, None)
    entry = (whole_of(words[0]), whole_of(words[1]), fraction_of(words[2]), fraction_of(words[3]))
    if None in entry or not has_step(program, entry[0], entry[1]):
        return (None, None, None)
    return (entry, told, check_number(body))


def has_step(program, task, step):
    """Tell whether a program has a task with this number, and the task such a step or end."""
    return task < len(program) and step <= len(program.tasks[task])


def recovered(program, setting, part, x, text):
    """Return a machine behind the longest beginning of a text's journal that a run begins with."""
    machine = Machine(program, setting, part, x)
    journal = read_journal(program, text)[0]
    good = 0
    while not machine.is_over:
        entries = machine.choose()
        if not is_same(journal[good:len(machine)], entries):
            break
        good = len(machine)
    return Machine.behind(program, setting, part, x, journal[:good])
