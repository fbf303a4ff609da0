"""Values of every kind that several tests hand to the program."""


class Plain:
    """An object of a kind that the program does not know."""


# None of these is an integer, a fraction or a line.
OTHER_VALUES = [
    None, True, False, 1.5, "", "1", "1/2", "(1, 2)", b"", b"12", [], {}, (), set(), object(), Plain(),
    Plain, len, range(2), {1: 2}, {"number": 1, "divisor": 2}, frozenset((1, 2)),
    [1, 2], [1, 1], [[1, 2]], (1,), (1, 2, 3), (1, 1, 1), (1, 2, None), ((1, 2),), ((1, 2), (1, 2)),
    (None, 1), (1, None), (None, None), (True, 1), (1, True), (False, 1), (0, True), (True, True), (True, 2),
    ("1", "2"), ("1", 2), (1, "2"), "12", (1.0, 2), (1, 2.0), ([1], 2), (1, [2]), ((1,), 2), (1, (2,)),
    ((1, 2), 3), (3, (1, 2)), ([1, 2], [3, 4]), [(1, 2)], [None, None], (b"1", 1),
]

NOT_INTEGERS = OTHER_VALUES + [(1, 2), (0, 1), (3, 1)]

# Tuples of two integers, so lines, but no fractions.
UNREDUCED = [
    (2, 4), (-2, 4), (6, 3), (5, 5), (0, 2), (0, 7), (10 ** 59, 10 ** 30), (3 * 7 ** 60, 3 * 5 ** 60),
    (1, 0), (0, 0), (-1, 0), (1, -1), (1, -2), (-1, -2), (0, -1), (3, -7),
]

FRACTIONS = [
    (0, 1), (1, 1), (-1, 1), (1, 2), (-1, 2), (2, 3), (-2, 3), (3, 2), (-7, 5), (12, 1), (-40, 1), (7, 12), (5, 18),
    (10 ** 60 - 1, 1), (1 - 10 ** 60, 1), (1, 10 ** 60 - 1), (-1, 10 ** 59), (7 ** 70, 2 ** 190), (-7 ** 70, 3 ** 120),
    (10 ** 59 + 1, 10 ** 59), (10 ** 59 - 1, 10 ** 59), (10 ** 59, 10 ** 59 + 1),
]

LINES = [
    (0, 0), (0, 1), (0, -1), (1, 0), (-1, 0), (2, 1), (2, 2), (-2, 1), (2, -6), (3, 3), (4, 8), (-5, 7),
    (10 ** 60 - 1, 1), (1, 1 - 10 ** 60), (10 ** 59, -10 ** 59), (-10 ** 30, 10 ** 31),
]

NAMES = ["a", "z", "p", "ab", "queue", "work", "task", "abcdefgh", "zzzzzzzz", "await"]

NOT_NAMES = [
    None, True, 0, 1, 1.5, "", "A", "Z", "aB", "a1", "1", "a_b", "_", "a b", " a", "a ", "a-b", "a\n", "a.", "abcdefghi",
    "abcdefgh ", "ABCDEFGH", b"a", ("a",), ["a"], {"a": 1}, {"a"}, (), [], {}, object(), Plain(), Plain, len, ("a", "b"),
]

SLOWNESSES = [x for x in FRACTIONS if x[0] >= 0]

NOT_SLOWNESSES = OTHER_VALUES + UNREDUCED + [0, 1, -3, 10 ** 60, (-1, 1), (-1, 2), (-2, 3), (-10 ** 59, 1)]
