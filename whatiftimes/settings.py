"""Settings: the slownesses of parts, and the rule by which waiting tasks go on."""

from whatiftimes.errors import InvalidSetting
from whatiftimes.integers import is_whole
from whatiftimes.names import is_name, require_name

RULES = ("turn", "number")
MOST_SLOWNESS = 10 ** 6


def is_pace(value):
    """Tell whether any value is an integer that a setting may give as a slowness."""
    return is_whole(value) and 0 <= value <= MOST_SLOWNESS


def are_paces(value):
    """Tell whether any value is a dict from names to slownesses."""
    if not isinstance(value, dict):
        return False
    return all([is_name(part) and is_pace(pace) for part, pace in value.items()])


class Setting:
    """The slownesses of all parts, and a rule; it never changes."""

    def __init__(self, slownesses=None, *, rule="turn"):
        given = {} if slownesses is None else slownesses
        if not are_paces(given):
            raise InvalidSetting(slownesses)
        if not isinstance(rule, str) or rule not in RULES:
            raise InvalidSetting(rule)
        # Slowness 1 is that of all other parts, so it makes no difference whether it was given.
        self.paces = {part: given[part] for part in given if given[part] != 1}
        self.order = rule

    @property
    def rule(self):
        """The rule: turn or number."""
        return self.order

    def __eq__(self, other):
        return isinstance(other, Setting) and self.order == other.order and self.paces == other.paces

    def slowness(self, part):
        """Return the slowness of a part."""
        require_name(part)
        return self.paces.get(part, 1)

    def with_slowness(self, part, slowness):
        """Return a setting with another slowness of a part."""
        require_name(part)
        if not is_pace(slowness):
            raise InvalidSetting(slowness)
        return Setting({**self.paces, part: slowness}, rule=self.order)
