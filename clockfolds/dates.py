"""Days, dates, weeks and kinds of years; day 0 is 1 January 2000, a Saturday."""

from clockfolds.errors import BadDate, BadNumber

# The calendar and the weekdays repeat after so many years, and days.
CYCLE_YEARS = 400
CYCLE_DAYS = 146097

MONTH_LENGTHS = (31, 28, 31, 30, 31, 30, 31, 31, 30, 31, 30, 31)


def is_number(value):
    """Whether any value is a number."""
    return isinstance(value, int) and not isinstance(value, bool)


def check_number(value, least=None):
    """Raise BadNumber(value) if the value is no number, or below the least one."""
    if not is_number(value) or (least is not None and value < least):
        raise BadNumber(value)


def is_leap(year):
    """Whether a year has 366 days."""
    check_number(year)
    return year % 4 == 0 and (year % 100 != 0 or year % 400 == 0)


def leap_years_before(year):
    """The number of leap years from the year 1 on and before a year, below 0 for the years before it."""
    last = year - 1
    return last // 4 - last // 100 + last // 400


def year_start(year):
    """The day of 1 January."""
    check_number(year)
    return 365 * (year - 2000) + leap_years_before(year) - leap_years_before(2000)


def month_length(month, leap):
    """The number of days of a month, in a leap year or not."""
    return 29 if month == 2 and leap else MONTH_LENGTHS[month - 1]


def month_start(month, leap):
    """The number of the first day of a month in its year, from 0 on; behind month 12, the year's length."""
    leap_day = 1 if leap and month > 2 else 0
    return sum(MONTH_LENGTHS[:month - 1]) + leap_day


def day_of(year, month, day):
    """The day with this date."""
    check_number(year)
    check_number(month)
    check_number(day)
    leap = is_leap(year)
    if not 1 <= month <= 12 or not 1 <= day <= month_length(month, leap):
        raise BadDate((year, month, day))
    return year_start(year) + month_start(month, leap) + day - 1


def year_of(day):
    """The year in which a day lies."""
    cycles, rest = divmod(day, CYCLE_DAYS)
    # No year is longer than 366 days, so this is never too late.
    year = 2000 + CYCLE_YEARS * cycles + rest // 366
    while year_start(year + 1) <= day:
        year += 1
    return year


def date_of(day):
    """The tuple (year, month, day) of a day."""
    check_number(day)
    year = year_of(day)
    leap = is_leap(year)
    number = day - year_start(year)
    month = 1
    while month_start(month + 1, leap) <= number:
        month += 1
    return year, month, number - month_start(month, leap) + 1


def weekday(day):
    """The weekday of a day, from 0 (Monday) to 6 (Sunday)."""
    check_number(day)
    return (day + 5) % 7


def week_of(day):
    """The tuple (year, week, weekday from 1 to 7) of a day."""
    check_number(day)
    in_week = weekday(day)
    # A week belongs to the year in which its Thursday lies.
    thursday = day - in_week + 3
    year = year_of(thursday)
    return year, (thursday - year_start(year)) // 7 + 1, in_week + 1


def kind_of(year):
    """The pair (weekday of 1 January, is_leap(year))."""
    check_number(year)
    return weekday(year_start(year)), is_leap(year)
