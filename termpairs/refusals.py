"""The refusals, an error class for each."""


class OutOfRange(Exception):
    """A number that is handed in isn't within its range: -2."""


class NotWellMade(Exception):
    """The text isn't well made: -3."""


class TooGreat(Exception):
    """A pair has a term of too many variables and functions: -4."""


class TooLong(Exception):
    """What's told is longer than it may be: -1."""
