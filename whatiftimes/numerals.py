"""Integers and fractions as words of texts."""

from whatiftimes.fractions import is_fraction


def fraction_word(pair):
    """Return a fraction as a word: its number, and its divisor if that is not 1."""
    return str(pair[0]) if pair[1] == 1 else f"{pair[0]}/{pair[1]}"


def whole_of(word):
    """Return the integer from 0 that a word tells, None if it is not written as one."""
    if not word.isascii() or not word.isdigit():
        return None
    if len(word) > 1 and word[0] == "0":
        return None
    return int(word)


def integer_of(word):
    """Return the integer that a word tells, None if it is not written as one."""
    if not word.startswith("-"):
        return whole_of(word)
    size = whole_of(word[1:])
    # Only negative integers have a sign.
    return None if size is None or size == 0 else -size


def fraction_of(word):
    """Return the fraction that a word tells, None if it is not written as one."""
    number, bar, divisor = word.partition("/")
    if bar == "":
        pair = (integer_of(number), 1)
    else:
        pair = (integer_of(number), whole_of(divisor))
        # A divisor of 1 is not written.
        if pair[1] == 1:
            return None
    return pair if is_fraction(pair) else None


def slowness_of(word):
    """Return the slowness that a word tells, None if it is not written as one."""
    return None if word.startswith("-") else fraction_of(word)
