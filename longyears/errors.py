"""The refusals, one class for each kind of argument that is none."""


class YearError(ValueError):
    """Any refusal."""


class NoLand(YearError):
    """What was handed in is no land."""


class NoYear(YearError):
    """What was handed in is no year, or less than the year it may not be less than."""


class NoDay(YearError):
    """What was handed in is no day, or less than the day it may not be less than."""


class NoPlace(YearError):
    """What was handed in is no place in the years of its land."""


class NoWeek(YearError):
    """What was handed in is no length of a week."""


class NoName(YearError):
    """What was handed in is no day of its week."""


class NoSeen(YearError):
    """What was handed in is no tuple of seen years."""


class NoNumber(YearError):
    """What was handed in is no bound for bottom."""


class NothingLeft(YearError):
    """There is no change left to take back."""
