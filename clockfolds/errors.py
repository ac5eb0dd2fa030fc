"""The errors of clockfolds."""


class ClockError(ValueError):
    """The base of all errors of clockfolds."""


class BadNumber(ClockError):
    """A value is not a number, or not one within the documented bounds."""

    def __init__(self, value):
        self.value = value


class BadDate(ClockError):
    """There is no such date."""

    def __init__(self, value):
        self.value = value


class BadDays(ClockError):
    """A value does not tell days as documented."""

    def __init__(self, value):
        self.value = value


class BadYearly(ClockError):
    """A value is no yearly day."""

    def __init__(self, value):
        self.value = value


class BadRow(ClockError):
    """A row of a rule is wrong."""

    def __init__(self, index):
        self.index = index


class BadOrder(ClockError):
    """A rule does not keep its order in a year."""

    def __init__(self, year, index):
        self.year = year
        self.index = index


class BadZone(ClockError):
    """A change of a zone is wrong."""

    def __init__(self, index):
        self.index = index


class BadWord(ClockError):
    """A value is none of the documented words."""

    def __init__(self, value):
        self.value = value


class TooFew(ClockError):
    """There are only so many."""

    def __init__(self, number):
        self.number = number


class BadLog(ClockError):
    """An entry of a log is wrong."""

    def __init__(self, index):
        self.index = index


class BadLimit(ClockError):
    """A limit of a log is wrong."""

    def __init__(self, index):
        self.index = index


class BadText(ClockError):
    """A line of a text is wrong."""

    def __init__(self, line):
        self.line = line
