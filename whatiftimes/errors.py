"""The errors of the program; each keeps its one argument as it was passed."""


class TimesError(Exception):
    """The base class of the errors about programs, settings, shapes, journals and texts."""


class InvalidProgram(TimesError):
    """Something is not a program; place tells where."""

    def __init__(self, place):
        self.place = place


class InvalidSetting(TimesError):
    """A value is not a setting, or not a part of one."""

    def __init__(self, value):
        self.value = value


class InvalidRange(TimesError):
    """A value is not a range."""

    def __init__(self, value):
        self.value = value


class InvalidShape(TimesError):
    """A value is not a shape, or not one of the right range."""

    def __init__(self, value):
        self.value = value


class InvalidJournal(TimesError):
    """Something is not the beginning of a journal; index tells where."""

    def __init__(self, index):
        self.index = index


class InvalidSighting(TimesError):
    """Something is not a list of sightings; index tells where."""

    def __init__(self, index):
        self.index = index


class InvalidText(TimesError):
    """A text is not written as it should be; place tells where."""

    def __init__(self, place):
        self.place = place


class InvalidCommand(TimesError):
    """A command is not one of the console; word is its first word."""

    def __init__(self, word):
        self.word = word


class InvalidNumber(ValueError):
    """A value is not a number of the kind that is needed."""

    def __init__(self, value):
        self.value = value


class LimitExceeded(OverflowError):
    """There would be more than the limit allows."""

    def __init__(self, limit):
        self.limit = limit


class UnknownName(KeyError):
    """A value is not a name, or nothing has this name."""

    def __init__(self, name):
        self.name = name


class Stuck(RuntimeError):
    """A run cannot go on; blocked tells which tasks wait."""

    def __init__(self, blocked):
        self.blocked = blocked


class TooLate(RuntimeError):
    """A step can no longer be changed; place tells which one."""

    def __init__(self, place):
        self.place = place


class NothingToUndo(RuntimeError):
    """There is nothing left to take back."""

    def __init__(self, name):
        self.name = name
