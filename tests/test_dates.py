import datetime
import unittest

from clockfolds.dates import (
    date_of, day_of, is_leap, is_number, kind_of, week_of, weekday, year_start)
from clockfolds.errors import BadDate, BadNumber
from models import NO_NUMBERS

DAY_0 = datetime.date(2000, 1, 1).toordinal()
LENGTHS = [31, 28, 31, 30, 31, 30, 31, 31, 30, 31, 30, 31]
CYCLES = [0, 1, -1, 5, -5, -6, 10 ** 6, -10 ** 6, 10 ** 24, -10 ** 24]


class NumberTest(unittest.TestCase):

    def test_is_number(self):
        for value in [0, 1, -1, 10 ** 30, -10 ** 30]:
            self.assertIs(is_number(value), True)
        for value in NO_NUMBERS:
            self.assertIs(is_number(value), False)

    def test_bad_numbers(self):
        for function in (is_leap, year_start, date_of, weekday, week_of, kind_of):
            for value in NO_NUMBERS:
                with self.assertRaises(BadNumber) as caught:
                    function(value)
                self.assertIs(caught.exception.value, value)

    def test_first_argument_that_is_no_number(self):
        for at in range(3):
            for value in NO_NUMBERS:
                for other in (1, 0, 99, "other"):
                    arguments = [2000, 1, 1]
                    arguments[at] = value
                    arguments[at + 1:] = [other] * (2 - at)
                    with self.assertRaises(BadNumber) as caught:
                        day_of(*arguments)
                    self.assertIs(caught.exception.value, value)


class YearTest(unittest.TestCase):

    def test_leap_years(self):
        leap = [2000, 2004, 2024, 1996, 2400, 1600, 0, -4, -400, 4 * 10 ** 27, 10 ** 27 + 4]
        common = [2001, 1999, 1900, 2100, 2200, 2300, -1, -2, -100, -300, 10 ** 27 + 100, 10 ** 27 + 1]
        for year in leap:
            self.assertIs(is_leap(year), True)
        for year in common:
            self.assertIs(is_leap(year), False)

    def test_year_start(self):
        for year in range(1, 4001):
            start = datetime.date(year, 1, 1).toordinal() - DAY_0
            self.assertEqual(year_start(year), start)
            for cycle in CYCLES:
                self.assertEqual(year_start(year + 400 * cycle), start + 146097 * cycle)

    def test_year_length(self):
        for year in [*range(-900, 900), 10 ** 27 - 1, 10 ** 27, 10 ** 27 + 1]:
            length = 366 if is_leap(year) else 365
            self.assertEqual(year_start(year + 1) - year_start(year), length)

    def test_years_and_days_of_30_digits(self):
        for far in (10 ** 30 - 1, -10 ** 30 + 1, 5 * 10 ** 29 + 37):
            near = 2000 + far % 400
            self.assertEqual(kind_of(far), kind_of(near))
            self.assertEqual(is_leap(far), is_leap(near))
            self.assertEqual(year_start(far), year_start(near) + (far - near) // 400 * 146097)
            self.assertEqual(day_of(*date_of(far)), far)
            self.assertEqual(weekday(far), (far + 5) % 7)
            self.assertEqual(week_of(far)[1:], week_of(far % 146097)[1:])
            self.assertEqual(date_of(far)[1:], date_of(far % 146097)[1:])

    def test_kinds_over_400_years(self):
        kinds = [kind_of(year) for year in range(2000, 2400)]
        self.assertEqual(len(set(kinds)), 14)
        for at, kind in enumerate(kinds):
            self.assertIs(type(kind), tuple)
            first = datetime.date(2000 + at, 1, 1).weekday()
            self.assertEqual(kind, (first, is_leap(2000 + at)))
            for cycle in CYCLES:
                self.assertEqual(kind_of(2000 + at + 400 * cycle), kind)
        self.assertEqual(year_start(2400), 146097)


class DateTest(unittest.TestCase):

    def test_first_and_last_days_of_months(self):
        for base in [1896, 1900, 1999, 2000, 2023, 2024, 2100, 0, -1, -4, -100, -400, 10 ** 26, 10 ** 26 + 1]:
            day = year_start(base)
            for month, length in enumerate(LENGTHS, 1):
                if month == 2 and is_leap(base):
                    length = 29
                self.assertEqual(day_of(base, month, 1), day)
                self.assertEqual(day_of(base, month, length), day + length - 1)
                self.assertEqual(date_of(day), (base, month, 1))
                self.assertEqual(date_of(day + 1), (base, month, 2))
                self.assertEqual(date_of(day + length - 2), (base, month, length - 1))
                self.assertEqual(date_of(day + length - 1), (base, month, length))
                for wrong in (0, -1, length + 1, 99, 10 ** 29):
                    self.refused(base, month, wrong)
                day += length
            self.assertEqual(date_of(day), (base + 1, 1, 1))
            self.assertEqual(date_of(year_start(base) - 1), (base - 1, 12, 31))

    def refused(self, *date):
        with self.assertRaises(BadDate) as caught:
            day_of(*date)
        self.assertEqual(caught.exception.value, date)
        self.assertIs(type(caught.exception.value), tuple)

    def test_no_such_dates(self):
        for month in (0, 13, -1, 10 ** 29, -10 ** 29):
            self.refused(2000, month, 1)
        self.refused(2001, 2, 29)
        self.refused(1900, 2, 29)
        self.refused(10 ** 27 + 100, 2, 29)
        self.refused(2000, 2, 30)

    def test_dates_over_400_years(self):
        for day in range(-36525, 146097 - 36525):
            date = datetime.date.fromordinal(day + DAY_0)
            self.assertEqual(date_of(day), (date.year, date.month, date.day))
            self.assertEqual(day_of(date.year, date.month, date.day), day)
            self.assertEqual(weekday(day), date.weekday())

    def test_back_and_forth(self):
        for base in range(-400, 146097, 331):
            year, month, number = date_of(base)
            for cycle in CYCLES:
                day = base + 146097 * cycle
                self.assertEqual(date_of(day), (year + 400 * cycle, month, number))
                self.assertEqual(day_of(year + 400 * cycle, month, number), day)
                self.assertEqual(weekday(day), weekday(base))

    def test_tuples(self):
        self.assertIs(type(date_of(0)), tuple)
        self.assertIs(type(week_of(0)), tuple)


class WeekTest(unittest.TestCase):

    def test_weeks_at_ends_of_years(self):
        weeks = set()
        for year in range(1890, 2310):
            start = year_start(year)
            for day in range(start - 10, start + 11):
                date = datetime.date.fromordinal(day + DAY_0)
                self.assertEqual(week_of(day), tuple(date.isocalendar()))
                weeks.add(week_of(day)[1])
                for cycle in CYCLES:
                    told, week, number = week_of(day + 146097 * cycle)
                    self.assertEqual((told - 400 * cycle, week, number), week_of(day))
        self.assertEqual(weeks, {1, 2, 51, 52, 53})

    def test_weeks_day_by_day(self):
        for day in range(-1000, 40000):
            date = datetime.date.fromordinal(day + DAY_0)
            self.assertEqual(week_of(day), tuple(date.isocalendar()))


if __name__ == "__main__":
    unittest.main()
