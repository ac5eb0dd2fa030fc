"""The names, arguments and files of the interface, and the conventions that hold for all of it."""

import inspect
import pathlib
import unittest

import clockfolds
from clockfolds import dates, daysets, errors, yearly
from clockfolds.daysets import DaySet
from models import form

FUNCTIONS = {
    dates: {
        "is_number": "value", "is_leap": "year", "year_start": "year", "day_of": "year, month, day", "date_of": "day",
        "weekday": "day", "week_of": "day", "kind_of": "year",
    },
    yearly: {
        "is_yearly": "value", "day_in": "yearly, year", "yearly_set": "yearly", "table_of": "yearly",
        "first_unlike_year": "yearly, other, year", "explaining": "examples", "deciding_year": "examples, year",
    },
}

MAKERS = {"of": "days", "span": "low, high=None", "every": "period, first=0", "weekdays": "weekdays",
          "pattern": "head, cycle"}

METHODS = {
    "within": "other", "shifted": "days", "how_many": "low, high", "nth": "number", "next_from": "day", "last_to": "day",
    "days": "low, high", "first_beyond": "other", "first_unlike": "other", "following": "other",
    "each": "number, first=0",
}

OPERATORS = ["__or__", "__and__", "__sub__", "__xor__", "__invert__", "__eq__", "__contains__", "__bool__"]

PROPERTIES = ["start", "period", "head", "cycle", "is_finite"]


class InterfaceTest(unittest.TestCase):

    def test_functions(self):
        for module, functions in FUNCTIONS.items():
            for name, arguments in functions.items():
                function = getattr(module, name)
                self.assertEqual(str(inspect.signature(function)), f"({arguments})")
                self.assertEqual(function.__module__, module.__name__)

    def test_day_sets(self):
        self.assertEqual(DaySet.__module__, daysets.__name__)
        for name, arguments in MAKERS.items():
            self.assertIsInstance(vars(DaySet)[name], classmethod)
            self.assertEqual(str(inspect.signature(getattr(DaySet, name))), f"({arguments})")
        for name, arguments in METHODS.items():
            self.assertEqual(str(inspect.signature(vars(DaySet)[name])), f"(self, {arguments})")
        for name in OPERATORS:
            self.assertIn(name, vars(DaySet))
        days = DaySet.every(3, 5)
        for name in PROPERTIES:
            self.assertTrue(hasattr(days, name))

    def test_errors_stand_in_their_file(self):
        for name in ("ClockError", "BadNumber", "BadDate", "BadDays", "BadYearly", "BadRow", "BadOrder", "BadZone",
                     "BadWord", "TooFew", "BadLog", "BadLimit", "BadText"):
            self.assertEqual(getattr(errors, name).__module__, errors.__name__)

    def test_package_defines_nothing(self):
        path = pathlib.Path(clockfolds.__file__)
        self.assertEqual(path.name, "__init__.py")
        self.assertEqual(path.read_text(), "")


class ConventionsTest(unittest.TestCase):

    def test_arguments_are_not_kept(self):
        days, weekdays, head, cycle = [5, 1, 5], [6, 0], [True, False], [False, True, True]
        sets = [DaySet.of(days), DaySet.weekdays(weekdays), DaySet.pattern(head, cycle)]
        before = [form(one) for one in sets]
        self.assertEqual((days, weekdays, head, cycle), ([5, 1, 5], [6, 0], [True, False], [False, True, True]))
        for given in (days, weekdays, head, cycle):
            given.clear()
        self.assertEqual([form(one) for one in sets], before)

    def test_lists_are_new(self):
        days = DaySet.pattern([True, False, True], [False, True, True, False])
        before = form(days)
        self.assertEqual(before, (3, 4, [0, 2], [4, 5]))
        days.head.clear()
        days.cycle.append(7)
        self.assertIsNot(days.head, days.head)
        self.assertEqual(form(days), before)
        self.assertIs(type(days.head), list)
        self.assertIs(type(days.cycle), list)

    def test_day_sets_are_not_modified(self):
        days = DaySet.every(3, 5)
        for name in PROPERTIES:
            with self.assertRaises(AttributeError):
                setattr(days, name, 1)

    def test_by_name(self):
        self.assertIs(dates.is_number(value=1), True)
        self.assertIs(dates.is_leap(year=2000), True)
        self.assertEqual(dates.year_start(year=2001), 366)
        self.assertEqual(dates.day_of(day=1, month=2, year=2000), 31)
        self.assertEqual(dates.date_of(day=31), (2000, 2, 1))
        self.assertEqual(dates.weekday(day=2), 0)
        self.assertEqual(dates.week_of(day=2), (2000, 1, 1))
        self.assertEqual(dates.kind_of(year=2000), (5, True))
        self.assertEqual(DaySet.of(days=[3]), DaySet.span(high=4, low=3))
        self.assertEqual(DaySet.weekdays(weekdays=[0]), DaySet.every(first=2, period=7))
        self.assertEqual(DaySet.pattern(cycle=[True, False], head=[]), DaySet.every(2))
        self.assertIs(yearly.is_yearly(value=("day", 0)), True)


if __name__ == "__main__":
    unittest.main()
