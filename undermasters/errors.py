"""The errors that the functions and methods raise."""

from undermasters.basics import as_tuples


class NoName(LookupError):
    """There is nobody, no room and no wing with this NAME."""

    def __init__(self, name):
        self.name = name


class NoKey(LookupError):
    """This KEY is none of those that are asked for."""

    def __init__(self, key):
        self.key = as_tuples(key)


class NoNumber(LookupError):
    """Nothing has this number."""

    def __init__(self, number):
        self.number = number


class NothingDone(LookupError):
    """There is no deed to take back."""


class NotQuiet(ValueError):
    """The KEY one opens the ROOM of the KEY other."""

    def __init__(self, one, other):
        self.one = as_tuples(one)
        self.other = as_tuples(other)


class Twice(ValueError):
    """This KEY is there already."""

    def __init__(self, key):
        self.key = as_tuples(key)


class BadText(ValueError):
    """Nothing has this text."""


class BadLine(ValueError):
    """The line with this number is wrong."""

    def __init__(self, number):
        self.number = number
