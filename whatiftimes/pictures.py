"""Pictures: the steps of a run, and tables of shapes."""

from whatiftimes.errors import InvalidText
from whatiftimes.lines import is_line
from whatiftimes.numerals import fraction_of, fraction_word, integer_of, slowness_of, whole_of
from whatiftimes.pieces import are_pieces, follows, is_point
from whatiftimes.runs import run
from whatiftimes.shapes import Shape

LETTERS = {"work": "W", "take": "T", "give": "G", "put": "P", "get": "Q", "skip": "S", "await": "A"}


def bars(program, setting, part, x):
    """Return a text with one row for each task: its steps that are done, and the time of its end."""
    journal = run(program, setting, part, x)[0]
    rows = []
    for number, steps in enumerate(program.tasks):
        rows.append(bar_row(number, steps, [entry for entry in journal if entry[0] == number]))
    return "\n".join(rows)


def bar_row(number, steps, entries):
    """Return the row of a task from its entries."""
    signs = [sign_of_entry(steps[entry[1]], entry) for entry in entries if entry[1] < len(steps)]
    ends = [fraction_word(entry[3]) for entry in entries if entry[1] == len(steps)]
    return " ".join([str(number), "".join(signs), ends[0] if len(ends) > 0 else "-"])


def sign_of_entry(step, entry):
    """Return the letter of a step, with a plus if it had to wait."""
    has_waited = step[0] != "work" and entry[2] != entry[3]
    return LETTERS[step[0]] + ("+" if has_waited else "")


def table(shape):
    """Return a text with one row for each of the shortest pieces of a shape."""
    return "\n".join([table_row(piece) for piece in shape.pieces()])


def table_row(piece):
    """Return the row of a piece."""
    if piece[0] == "at":
        words = ["at", fraction_word(piece[1]), word_or_dash(piece[2])]
    else:
        words = ["between", fraction_word(piece[1]), word_or_dash(piece[2]), line_word(piece[3])]
    return " ".join(words)


def word_or_dash(pair):
    """Return a fraction as a word, a dash for None."""
    return "-" if pair is None else fraction_word(pair)


def line_word(line):
    """Return a line as a word, a dash for None."""
    if line is None:
        return "-"
    sign = "-" if line[1] < 0 else "+"
    return f"{line[0]}x{sign}{abs(line[1])}"


def read_table(text):
    """Return the shape that any text like those of table tells."""
    if not isinstance(text, str):
        raise InvalidText(None)
    pieces = []
    for place, row in enumerate(text.split("\n")):
        piece = read_piece(row)
        if not can_follow(piece, pieces):
            raise InvalidText(place)
        pieces.append(piece)
    # All of them follow one another, so only the last one can be missing.
    if not are_pieces(pieces):
        raise InvalidText(len(pieces))
    return Shape(pieces)


def can_follow(piece, pieces):
    """Tell whether a piece can stand behind others, or first; None cannot."""
    return follows(piece, pieces[-1], len(pieces)) if len(pieces) > 0 else is_point(piece)


def read_piece(row):
    """Return the piece of a row, None if it is not written as one."""
    words = row.split(" ")
    if words[0] == "at" and len(words) == 3:
        piece = ("at", slowness_of(words[1]), fraction_of(words[2]))
    elif words[0] == "between" and len(words) == 4:
        piece = ("between", slowness_of(words[1]), slowness_of(words[2]), line_of(words[3]))
    else:
        return None
    for word, pair in zip(words, piece):
        # Only a dash stands for None.
        if pair is None and word != "-":
            return None
    return piece


def line_of(word):
    """Return the line that a word tells, None if it is not written as one."""
    slope, mark, rest = word.partition("x")
    # The base has a sign in any case, a plus if it is 0.
    base = whole_of(rest[1:]) if rest.startswith("+") else None
    if rest.startswith("-"):
        base = integer_of(rest)
    line = (integer_of(slope), base)
    return line if is_line(line) else None
