"""Yearly days: one day in each year, named by a rule."""

from clockfolds.dates import (
    CYCLE_DAYS, CYCLE_YEARS, check_number, is_number, kind_of, month_length, month_start, year_start)
from clockfolds.daysets import DaySet
from clockfolds.errors import BadDays, BadYearly

# How many numbers stand behind each word.
WORDS = {"nth": 3, "last": 2, "from": 3, "until": 3, "date": 2, "day": 1}

# The first and the last date from which a week of seven days lies in the year.
FIRST_UNTIL = (1, 7)
LAST_FROM = (12, 25)


def in_bounds(word, numbers):
    """Whether numbers, as many as the word takes, are those of a yearly day."""
    if word == "day":
        return 0 <= numbers[0] <= 364
    if not 1 <= numbers[0] <= 12:
        return False
    if word == "nth" and not 1 <= numbers[1] <= 4:
        return False
    if word in ("from", "until", "date") and not 1 <= numbers[1] <= month_length(numbers[0], False):
        return False
    if word == "from" and numbers[:2] > LAST_FROM:
        return False
    if word == "until" and numbers[:2] < FIRST_UNTIL:
        return False
    return word == "date" or 0 <= numbers[-1] <= 6


def is_yearly(value):
    """Whether any value is a yearly day."""
    if not isinstance(value, tuple) or not value or not isinstance(value[0], str):
        return False
    word, *numbers = value
    if WORDS.get(word) != len(numbers) or not all([is_number(number) for number in numbers]):
        return False
    return in_bounds(word, tuple(numbers))


def check_yearly(value):
    """Raise BadYearly(value) if the value is no yearly day."""
    if not is_yearly(value):
        raise BadYearly(value)


def all_kinds():
    """The fourteen kinds of years, ascending."""
    return [(first, leap) for first in range(7) for leap in (False, True)]


def all_yearly():
    """All yearly days, in their order."""
    weekdays = list(range(7))
    months = list(range(1, 13))
    dates = [(month, day) for month in months for day in range(1, month_length(month, False) + 1)]
    nths = [("nth", month, week, weekday) for month in months for week in range(1, 5) for weekday in weekdays]
    lasts = [("last", month, weekday) for month in months for weekday in weekdays]
    froms = [("from", *date, weekday) for date in dates if date <= LAST_FROM for weekday in weekdays]
    untils = [("until", *date, weekday) for date in dates if date >= FIRST_UNTIL for weekday in weekdays]
    return nths + lasts + froms + untils + [("date", *date) for date in dates] + [("day", day) for day in range(365)]


def on_or_after(number, weekday, first):
    """The first day of a year with a weekday from a number on; first is the weekday of 1 January."""
    return number + (weekday - first - number) % 7


def on_or_before(number, weekday, first):
    """The last day of a year with a weekday up to a number; first is the weekday of 1 January."""
    return number - (first + number - weekday) % 7


def number_in(yearly, kind):
    """The number of a yearly day in the years of a kind, from 0 on."""
    first, leap = kind
    word = yearly[0]
    if word == "day":
        return yearly[1]
    start = month_start(yearly[1], leap)
    if word == "nth":
        return on_or_after(start + 7 * (yearly[2] - 1), yearly[3], first)
    if word == "last":
        return on_or_before(start + month_length(yearly[1], leap) - 1, yearly[2], first)
    number = start + yearly[2] - 1
    if word == "from":
        return on_or_after(number, yearly[3], first)
    if word == "until":
        return on_or_before(number, yearly[3], first)
    return number


def day_in(yearly, year):
    """The day that a yearly day names in a year."""
    check_yearly(yearly)
    check_number(year)
    return year_start(year) + number_in(yearly, kind_of(year))


def yearly_set(yearly):
    """The day set of a yearly day in the years from 2000 on."""
    check_yearly(yearly)
    return DaySet(0, CYCLE_DAYS, [day_in(yearly, year) for year in range(2000, 2000 + CYCLE_YEARS)])


def table_of(yearly):
    """The dict from the kinds of years to the number of a yearly day in them."""
    check_yearly(yearly)
    return {kind: number_in(yearly, kind) for kind in all_kinds()}


def first_year_apart(tables, year):
    """The least year not before a year in whose kind the tables differ, or None."""
    # The kinds repeat after 400 years, so no later year needs to be tried.
    for later in range(year, year + CYCLE_YEARS):
        kind = kind_of(later)
        if len({table[kind] for table in tables}) > 1:
            return later
    return None


def first_unlike_year(yearly, other, year):
    """The least year not before a year in which two yearly days differ, or None."""
    tables = [table_of(yearly), table_of(other)]
    check_number(year)
    return first_year_apart(tables, year)


def check_examples(examples):
    """Raise BadDays(examples) if a value is not a dict, not empty, from years to days."""
    if not isinstance(examples, dict) or not examples:
        raise BadDays(examples)
    if not all([is_number(year) and is_number(examples[year]) for year in examples]):
        raise BadDays(examples)


def explains(yearly, wanted):
    """Whether a yearly day has the wanted number in each of the wanted kinds of years."""
    for kind, number in wanted:
        if number_in(yearly, kind) != number:
            return False
    return True


def explaining(examples):
    """The yearly days that name these days in these years, one of those that are the same for ever."""
    check_examples(examples)
    wanted = [(kind_of(year), examples[year] - year_start(year)) for year in examples]
    found = {}
    for yearly in all_yearly():
        if explains(yearly, wanted):
            found.setdefault(tuple(table_of(yearly).values()), yearly)
    return list(found.values())


def deciding_year(examples, year):
    """The least year not before a year in which the explaining yearly days differ, or None."""
    tables = [table_of(yearly) for yearly in explaining(examples)]
    check_number(year)
    return first_year_apart(tables, year)
