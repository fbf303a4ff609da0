"""Names: texts of one to eight lowercase letters."""

from whatiftimes.errors import UnknownName


def is_name(value):
    """Tell whether any value is a name."""
    if not isinstance(value, str) or not 1 <= len(value) <= 8:
        return False
    return value.isascii() and value.isalpha() and value.islower()


def require_name(value):
    """Raise UnknownName unless any value is a name."""
    if not is_name(value):
        raise UnknownName(value)
