import datetime
import unittest

from clockfolds.dates import day_of, is_leap, kind_of, year_start
from clockfolds.errors import BadDays, BadNumber, BadYearly
from clockfolds.yearly import (
    day_in, deciding_year, explaining, first_unlike_year, is_yearly, table_of, yearly_set)
from models import NO_NUMBERS, form

DAY_0 = datetime.date(2000, 1, 1).toordinal()
LENGTHS = [31, 28, 31, 30, 31, 30, 31, 31, 30, 31, 30, 31]
DATES = [(month, day) for month in range(1, 13) for day in range(1, LENGTHS[month - 1] + 1)]
WORDS = ["nth", "last", "from", "until", "date", "day"]

ALL = (
    [("nth", month, week, weekday) for month in range(1, 13) for week in range(1, 5) for weekday in range(7)]
    + [("last", month, weekday) for month in range(1, 13) for weekday in range(7)]
    + [("from", month, day, weekday) for month, day in DATES if (month, day) <= (12, 25) for weekday in range(7)]
    + [("until", month, day, weekday) for month, day in DATES if (month, day) >= (1, 7) for weekday in range(7)]
    + [("date", month, day) for month, day in DATES]
    + [("day", number) for number in range(365)]
)

# One year of each kind.
SAMPLES = [2000, 2001, 2002, 2003, 2004, 2005, 2006, 2008, 2010, 2012, 2016, 2020, 2024, 2009]

BOUNDS = [
    ("nth", 1, 1, 0), ("nth", 12, 4, 6), ("nth", 2, 4, 0), ("nth", 2, 1, 6), ("nth", 3, 1, 2),
    ("last", 1, 0), ("last", 2, 0), ("last", 2, 6), ("last", 12, 6),
    ("from", 1, 1, 0), ("from", 2, 28, 3), ("from", 2, 22, 5), ("from", 3, 1, 1), ("from", 12, 25, 6),
    ("until", 1, 7, 0), ("until", 2, 28, 2), ("until", 3, 1, 4), ("until", 12, 31, 6),
    ("date", 1, 1), ("date", 2, 28), ("date", 3, 1), ("date", 12, 31),
    ("day", 0), ("day", 58), ("day", 59), ("day", 60), ("day", 364),
]

NO_YEARLY = [
    *NO_NUMBERS, 7, "date", ("date",), ("nth", 1, 1), ("nth", 1, 1, 0, 0), ("last", 1), ("last", 1, 1, 1),
    ("from", 1, 1), ("until", 3, 1), ("from", 1, 1, 1, 1), ("date", 1), ("date", 1, 1, 1), ("day",), ("day", 1, 1),
    ("nth", 0, 1, 0), ("nth", 13, 1, 0), ("nth", 1, 0, 0), ("nth", 1, 5, 0), ("nth", 1, 1, 7), ("nth", 1, 1, -1),
    ("last", 0, 0), ("last", 13, 0), ("last", 1, 7), ("last", 1, -1),
    ("from", 12, 26, 0), ("from", 12, 31, 0), ("from", 1, 0, 0), ("from", 2, 29, 0), ("from", 1, 1, 7),
    ("until", 1, 6, 0), ("until", 1, 1, 0), ("until", 12, 32, 0), ("until", 2, 29, 0), ("until", 2, 1, 7),
    ("until", 2, 1, -1), ("date", 2, 29), ("date", 2, 30), ("date", 4, 31), ("date", 0, 1), ("date", 13, 1),
    ("date", 1, 0), ("date", 1, 32), ("day", -1), ("day", 365), ("day", 10 ** 30),
    ["date", 1, 1], ["day", 0], ("Date", 1, 1), ("", 1), ("days", 1), (1, 1), (None, 1), (["day"], 1), (("day",), 1),
    ({}, 0), ("day", True), ("day", False), ("day", None), ("day", "1"), ("day", [1]), ("date", True, 1),
    ("date", 1, True), ("nth", 1, True, 0), ("last", 1, False), ("from", 1, 1, False), ("date", "1", 1), (True, 1),
]


def named(yearly, year):
    """The day of a yearly day in a year that datetime knows, by going through the days."""
    days = [datetime.date(year, 1, 1) + datetime.timedelta(number) for number in range(365 + is_leap(year))]
    word, *numbers = yearly
    if word == "day":
        found = days[numbers[0]:]
    elif word == "date":
        found = [day for day in days if (day.month, day.day) == tuple(numbers)]
    elif word == "nth":
        found = [day for day in days if (day.month, day.weekday()) == (numbers[0], numbers[2])][numbers[1] - 1:]
    elif word == "last":
        found = [day for day in days if (day.month, day.weekday()) == tuple(numbers)][-1:]
    else:
        date = datetime.date(year, numbers[0], numbers[1])
        days = [day for day in days if day.weekday() == numbers[2]]
        found = [day for day in days if day >= date] if word == "from" else [day for day in days if day <= date][-1:]
    return found[0].toordinal() - DAY_0


def by_order(yearly):
    return WORDS.index(yearly[0]), yearly[1:]


def same_for_ever(yearly):
    """What tells yearly days apart: the days named in one year of each kind."""
    return tuple(day_in(yearly, year) for year in SAMPLES)


FOR_EVER = {yearly: same_for_ever(yearly) for yearly in ALL}


class YearlyTest(unittest.TestCase):

    def test_the_list_of_all(self):
        self.assertEqual(sorted(ALL, key=by_order), ALL)
        self.assertEqual(len({kind_of(year) for year in SAMPLES}), 14)

    def test_is_yearly(self):
        for yearly in ALL:
            self.assertIs(is_yearly(yearly), True)
        for value in NO_YEARLY:
            self.assertIs(is_yearly(value), False, value)

    def test_is_yearly_at_all_bounds(self):
        known = set(ALL)
        for month in range(-1, 15):
            for day in range(-1, 34):
                self.assertIs(is_yearly(("date", month, day)), ("date", month, day) in known)
                self.assertIs(is_yearly(("last", month, day)), ("last", month, day) in known)
                for weekday in range(-1, 9):
                    for word in ("nth", "from", "until"):
                        yearly = (word, month, day, weekday)
                        self.assertIs(is_yearly(yearly), yearly in known, yearly)
        for number in range(-2, 400):
            self.assertIs(is_yearly(("day", number)), 0 <= number <= 364)

    def test_day_in_by_going_through_the_days(self):
        for year in [*SAMPLES, 1600, 1900, 2100, 2200, 2300, 2400, 1999]:
            for yearly in BOUNDS:
                self.assertEqual(day_in(yearly, year), named(yearly, year), (yearly, year))
        for yearly in ALL[::19]:
            for year in SAMPLES:
                self.assertEqual(day_in(yearly, year), named(yearly, year), (yearly, year))

    def test_day_in_far_years(self):
        for yearly in BOUNDS:
            for year in (1900, 2000, 2003, 2004, 2028, 2100):
                for cycle in (-1, -5, -6, -10 ** 24, 10 ** 6, 10 ** 24):
                    day = named(yearly, year) + 146097 * cycle
                    self.assertEqual(day_in(yearly, year + 400 * cycle), day)
                    self.assertEqual(day_in(year=year + 400 * cycle, yearly=yearly), day)

    def test_table_of(self):
        kinds = [(first, leap) for first in range(7) for leap in (False, True)]
        for yearly in BOUNDS + ALL[::50]:
            table = table_of(yearly)
            self.assertEqual(list(table), kinds)
            self.assertEqual([type(leap) for _, leap in table], [bool] * 14)
            for year in SAMPLES:
                self.assertEqual(table[kind_of(year)], day_in(yearly, year) - year_start(year))
        table = table_of(yearly=("day", 3))
        table.clear()
        self.assertEqual(len(table_of(("day", 3))), 14)

    def test_yearly_set(self):
        for yearly in BOUNDS:
            days = yearly_set(yearly)
            told = [day_in(yearly, year) for year in range(2000, 2800)]
            self.assertEqual(list(days.days(-5, 2 * 146097)), told)
            for years in (10 ** 6, 10 ** 26 + 77):
                self.assertEqual(days.nth(years), day_in(yearly, 2000 + years))
                self.assertIn(day_in(yearly, 2000 + years), days)
                self.assertNotIn(day_in(yearly, 2000 + years) + 1, days)
            self.assertEqual((days.start, days.period, days.how_many(0, 146097 * 10 ** 20)),
                             (0, 146097, 400 * 10 ** 20))
        self.assertEqual(form(yearly_set(yearly=("last", 3, 6))), form(yearly_set(("from", 3, 25, 6))))

    def test_bad_yearly(self):
        for value in NO_YEARLY:
            for question in (lambda one: day_in(one, "x"), yearly_set, table_of,
                             lambda one: first_unlike_year(one, None, "x"),
                             lambda one: first_unlike_year(("day", 1), one, None)):
                with self.assertRaises(BadYearly) as caught:
                    question(value)
                self.assertIs(caught.exception.value, value)

    def test_bad_years(self):
        for value in NO_NUMBERS:
            for question in (lambda year: day_in(("day", 0), year),
                             lambda year: first_unlike_year(("day", 0), ("day", 0), year),
                             lambda year: first_unlike_year(("day", 0), ("day", 1), year),
                             lambda year: deciding_year({2000: 0}, year),
                             lambda year: deciding_year({2000: -1}, year)):
                with self.assertRaises(BadNumber) as caught:
                    question(value)
                self.assertIs(caught.exception.value, value)


class UnlikeTest(unittest.TestCase):

    def check(self, one, other, year):
        years = [later for later in range(year, year + 400) if day_in(one, later) != day_in(other, later)]
        found = years[0] if years else None
        self.assertEqual(first_unlike_year(one, other, year), found)
        self.assertEqual(first_unlike_year(other, one, year), found)
        return found

    def test_bounds(self):
        pairs = [
            (("last", 3, 6), ("from", 3, 25, 6)), (("nth", 2, 4, 0), ("last", 2, 0)), (("day", 59), ("date", 3, 1)),
            (("day", 58), ("date", 2, 28)), (("until", 1, 7, 0), ("from", 1, 1, 0)), (("last", 12, 6), ("until", 12, 31, 6)),
            (("nth", 3, 1, 2), ("from", 3, 1, 2)), (("from", 2, 22, 3), ("last", 2, 3)), (("date", 12, 25), ("day", 358)),
            (("nth", 2, 4, 3), ("from", 2, 22, 3)), (("from", 2, 26, 3), ("until", 3, 4, 3)), (("day", 0), ("day", 0)),
            (("from", 2, 27, 2), ("until", 3, 5, 2)),
        ]
        answers = []
        for one, other in pairs:
            for year in (-3, 1897, 2000, 2025, 2096, 10 ** 26 + 97):
                found = self.check(one, other, year)
                answers.append(found)
                if found is not None:
                    self.check(one, other, found)
                    self.check(one, other, found + 1)
        self.assertIn(None, answers)

    def test_by_name(self):
        self.assertEqual(first_unlike_year(year=2000, other=("date", 3, 1), yearly=("day", 59)), 2000)
        self.assertEqual(first_unlike_year(("day", 59), ("date", 3, 1), 2001), 2004)
        self.assertEqual(first_unlike_year(("day", 59), ("date", 3, 1), 2097), 2104)

    def test_rare_years(self):
        # The latest leap year that begins on a given weekday may lie 40 years behind.
        for weekday in range(7):
            self.check(("nth", 2, 4, weekday), ("last", 2, weekday), 2080)
            self.check(("nth", 2, 4, weekday), ("last", 2, weekday), 10 ** 27)


class ExplainingTest(unittest.TestCase):

    def explained(self, examples):
        """What explains the examples, by trying all yearly days."""
        found = {}
        for yearly in ALL:
            if all(day_in(yearly, year) == day for year, day in examples.items()):
                found.setdefault(FOR_EVER[yearly], yearly)
        return list(found.values())

    def decided(self, yearly_days, year):
        for later in range(year, year + 400):
            if len({day_in(yearly, later) for yearly in yearly_days}) > 1:
                return later
        return None

    def check(self, examples):
        before = dict(examples)
        expected = self.explained(examples)
        self.assertEqual(explaining(examples), expected)
        for year in (-7, 1999, 2025, 10 ** 26 + 3):
            self.assertEqual(deciding_year(examples, year), self.decided(expected, year))
        self.assertEqual(examples, before)
        return expected

    def test_examples_of_one_yearly_day(self):
        for yearly in BOUNDS[::2]:
            for years in ([2024], [2023, 2024], [1900, 1996, 2000, 10 ** 26], [-4, -3, 10 ** 27 + 1]):
                examples = {year: day_in(yearly, year) for year in years}
                self.assertNotEqual(self.check(examples), [])
                self.assertEqual(explaining(dict(reversed(examples.items()))), explaining(examples))

    def test_all_kinds_leave_one(self):
        for yearly in BOUNDS:
            examples = {year: day_in(yearly, year) for year in SAMPLES}
            found = explaining(examples)
            self.assertEqual(len(found), 1)
            self.assertEqual(found[0], next(other for other in ALL if FOR_EVER[other] == FOR_EVER[yearly]))
            self.assertIsNone(deciding_year(examples, 2000))

    def test_order_and_first_of_the_same(self):
        # The last Sunday of March 2024 is the 31st.
        found = explaining({2024: day_of(2024, 3, 31)})
        self.assertEqual(found, [("last", 3, 6), *[("from", 3, day, 6) for day in range(26, 32)],
                                 ("date", 3, 31), ("day", 90)])
        self.assertEqual(explaining({2001: day_of(2001, 3, 1)})[0], ("nth", 3, 1, 3))
        for examples in ({2000: 0}, {2000: 59}, {2004: day_of(2004, 2, 29)}, {2023: day_of(2023, 12, 31)}):
            found = self.check(examples)
            self.assertEqual(sorted(found, key=by_order), found)

    def test_nothing_explains(self):
        for examples in ({2000: -1}, {2000: 366}, {2000: 0, 2001: 0}, {2000: 0, 2400: 146098}, {0: 10 ** 30},
                         {2004: day_of(2004, 12, 31), 2000: 0}):
            self.assertEqual(self.check(examples), [])
            self.assertIsNone(deciding_year(examples, 2000))

    def test_last_days_of_years(self):
        self.check({2000: 365})
        self.check({2000: 365, 2001: 365 + 365})
        self.check({2001: 366, 2002: day_of(2002, 1, 1)})

    def test_by_name_and_new_lists(self):
        examples = {2000: 0}
        found = explaining(examples=examples)
        found.clear()
        self.assertNotEqual(explaining(examples), [])
        self.assertEqual(deciding_year(year=2001, examples=examples), deciding_year(examples, 2001))

    def test_bad_examples(self):
        for value in [True, False, None, 0, "", "2000", [], [(2000, 0)], (), {}, {2000: None}, {2000: True}, {True: 0},
                      {2000: 0, 2001: "1"}, {2000: 0, "2001": 1}, {None: 0}, {2000: [0]}, {(2000,): 0}, {2000: 0, 1: {}}]:
            for question in (explaining, lambda examples: deciding_year(examples, "x")):
                with self.assertRaises(BadDays) as caught:
                    question(value)
                self.assertIs(caught.exception.value, value)


if __name__ == "__main__":
    unittest.main()
