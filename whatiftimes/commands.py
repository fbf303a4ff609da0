"""The commands of the console: how they are read, and what they do with a bench."""

from whatiftimes.errors import InvalidCommand
from whatiftimes.names import is_name
from whatiftimes.numerals import fraction_word, slowness_of, whole_of
from whatiftimes.pictures import table
from whatiftimes.regimes import profile
from whatiftimes.runs import run
from whatiftimes.settings import Setting
from whatiftimes.steps import MOST_TASKS
from whatiftimes.texts import read_program, read_step

# What stands behind the first word of a command; a text takes all words that are left.
FORMS = {
    "store": ("name", "text"),
    "drop": ("name",),
    "undo": (),
    "names": (),
    "show": ("name",),
    "set": ("name", "number", "number", "text"),
    "capacity": ("name", "name", "number"),
    "time": ("name", "name", "slowness"),
    "profile": ("name", "name", "slowness", "end"),
    "best": ("name", "name", "slowness", "end"),
    "falls": ("name", "name", "slowness", "end"),
}

MOST_DIGITS = 60


def read_command(command):
    """Return the tuple (word, items) of the first word of any command and the values behind it."""
    if not isinstance(command, str) or "\n" in command:
        raise InvalidCommand(None)
    words = command.split(" ")
    word = words[0]
    # Only the text of a program may have empty words.
    if "" in (words[:2] if word == "store" else words):
        raise InvalidCommand(None)
    if word not in FORMS:
        raise InvalidCommand(word)
    form = FORMS[word]
    told = with_text(words[1:], form)
    if len(told) != len(form):
        raise InvalidCommand(word)
    items = [item_of(each, kind) for each, kind in zip(told, form)]
    for item, each, kind in zip(items, told, form):
        if item is None and (kind != "end" or each != "-"):
            raise InvalidCommand(word)
    return (word, items)


def with_text(words, form):
    """Return the words of a command, with all that belong to a text at its end as one."""
    if "text" not in form:
        return words
    size = len(form) - 1
    return words[:size] + [" ".join(words[size:])]


def item_of(word, kind):
    """Return the value of a word of this kind, None if it is not written as one, and for a dash as an end."""
    if kind == "name":
        return word if is_name(word) else None
    if kind == "number":
        return whole_of(word) if len(word) <= MOST_DIGITS else None
    if kind == "text":
        return word if word != "" else None
    return slowness_of(word)


def do_store(bench, name, text):
    """Store the program of a text."""
    bench.store(name, read_program(text.replace("; ", "\n")))
    return "ok"


def do_drop(bench, name):
    """Drop a program."""
    bench.drop(name)
    return "ok"


def do_undo(bench):
    """Take back the last edit."""
    bench.undo()
    return "ok"


def tell_names(bench):
    """Tell the names."""
    return words_or_dash(bench.names())


def show_program(bench, name):
    """Tell the text of a program."""
    return bench.kept(name).text.replace("\n", "; ")


def do_set(bench, name, task, index, text):
    """Replace a step."""
    step = read_step(text, MOST_TASKS)
    bench.edit(name, lambda program: program.changed(task, index, step))
    return "ok"


def do_capacity(bench, name, queue, capacity):
    """Change a capacity."""
    bench.edit(name, lambda program: program.with_capacity(queue, capacity))
    return "ok"


def tell_time(bench, name, part, x):
    """Tell the total, or which tasks wait."""
    journal, waiting, total = run(bench.kept(name), Setting(), part, x)
    if total is None:
        return " ".join(["stuck"] + [f"{task}.{step}" for task, step in waiting])
    return fraction_word(total)


def profile_of(bench, name, part, low, high):
    """Return the profile of a program."""
    return profile(bench.kept(name), Setting(), part, low, high)


def tell_profile(bench, name, part, low, high):
    """Tell the table of a profile."""
    return table(profile_of(bench, name, part, low, high)).replace("\n", "; ")


def tell_best(bench, name, part, low, high):
    """Tell the least total, where it is taken or approached, and from which side."""
    least = profile_of(bench, name, part, low, high).least()
    if least is None:
        return "-"
    time, x, side = least
    return f"{fraction_word(time)} {fraction_word(x)} {side}"


def tell_falls(bench, name, part, low, high):
    """Tell where the total jumps down."""
    return words_or_dash([fraction_word(row[0]) for row in profile_of(bench, name, part, low, high).falls()])


def words_or_dash(words):
    """Return words separated by single spaces, a dash if there are none."""
    return " ".join(words) if len(words) > 0 else "-"


ACTIONS = {
    "store": do_store,
    "drop": do_drop,
    "undo": do_undo,
    "names": tell_names,
    "show": show_program,
    "set": do_set,
    "capacity": do_capacity,
    "time": tell_time,
    "profile": tell_profile,
    "best": tell_best,
    "falls": tell_falls,
}


def carry_out(bench, command):
    """Do what any command says with a bench, and return what it tells."""
    word, items = read_command(command)
    action = ACTIONS[word]
    return action(bench, *items)
