"""The names, arguments and files of the interface, and the conventions that hold for all of it."""

import inspect
import pathlib
import unittest

import clockfolds
from clockfolds import (
    comparing, dates, daysets, errors, logs, moments, readings, runs, texts, versions, yearly, zones)
from clockfolds.daysets import DaySet
from clockfolds.errors import BadNumber, BadRow, BadYearly, BadZone
from clockfolds.moments import Moment
from clockfolds.runs import Runs
from clockfolds.zones import Zone
from models import form
from zone_models import SUMMER

FUNCTIONS = {
    dates: {
        "is_number": "value", "is_leap": "year", "year_start": "year", "day_of": "year, month, day", "date_of": "day",
        "weekday": "day", "week_of": "day", "kind_of": "year",
    },
    yearly: {
        "is_yearly": "value", "day_in": "yearly, year", "yearly_set": "yearly", "table_of": "yearly",
        "first_unlike_year": "yearly, other, year", "explaining": "examples", "deciding_year": "examples, year",
    },
    zones: {"check_rule": "rule", "rule_changes": "rule, year", "rule_table": "rule"},
    readings: {
        "reading_at": "zone, instant", "instants_of": "zone, reading", "fold_at": "zone, instant",
        "profile": "zone, low, high", "resolved": "zone, reading, *, fold=0, gap=None",
        "days_with": "zone, second, offset", "skipped": "zone, second", "repeated": "zone, second",
    },
    moments: {"agrees": "zone, low, high, seconds"},
    comparing: {
        "mixed": "one, other", "first_broken": "moments", "first_turn": "zone, instant", "order": "moments",
    },
    runs: {"runs_of": "zone, days, second, *, fold='first', gap=None"},
    versions: {
        "moved_days": "old, new, second", "moved_readings": "old, new, low, high", "first_moved": "old, new",
        "moved_runs": "old, new, days, second, *, fold='first', gap=None",
    },
    logs: {
        "earliest": "entries, limits", "latest": "entries, limits", "possible": "entries, limits",
        "refutation": "entries, limits", "is_refutation": "entries, limits, steps", "in_order": "entries, gap=0",
    },
    texts: {
        "date_text": "day", "offset_text": "offset", "moment_text": "moment", "yearly_text": "yearly",
        "zone_text": "zone", "read_date": "text", "read_yearly": "text", "read_zone": "text",
        "read_moment": "zone, text",
    },
}

FILES = {DaySet: daysets, Zone: zones, Moment: moments, Runs: runs}

MAKERS = {
    DaySet: {"of": "days", "span": "low, high=None", "every": "period, first=0", "weekdays": "weekdays",
             "pattern": "head, cycle"},
    Zone: {"fixed": "offset"},
    Moment: {"of": "zone, year, month, day, second=0, *, fold=0, gap=None"},
    Runs: {"once": "instants"},
}

METHODS = {
    DaySet: {
        "within": "other", "shifted": "days", "how_many": "low, high", "nth": "number", "next_from": "day",
        "last_to": "day", "days": "low, high", "first_beyond": "other", "first_unlike": "other", "following": "other",
        "each": "number, first=0",
    },
    Zone: {
        "__init__": "offset, changes=(), *, rule=None, since=None", "offset_at": "instant", "changes": "low, high",
        "next_change": "instant", "first_unlike": "other",
    },
    Moment: {
        "__init__": "zone, instant", "fold": "", "in_zone": "zone", "moved": "*, days=0, seconds=0, fold=0, gap=None",
    },
    Runs: {
        "__init__": "parts", "within": "other", "shifted": "seconds", "how_many": "low, high", "nth": "number",
        "next_from": "instant", "last_to": "instant", "first_beyond": "other", "first_unlike": "other",
        "first_meeting": "other", "instants": "low, high",
    },
}

OPERATORS = {
    DaySet: ["__or__", "__and__", "__sub__", "__xor__", "__invert__", "__eq__", "__contains__", "__bool__"],
    Zone: ["__eq__"],
    Moment: ["__eq__", "__lt__", "__le__", "__gt__", "__ge__", "__add__", "__sub__"],
    Runs: ["__or__", "__and__", "__sub__", "__xor__", "__eq__", "__contains__", "__bool__"],
}

PROPERTIES = {
    DaySet: ["start", "period", "head", "cycle", "is_finite"],
    Zone: ["form"],
    Moment: ["zone", "instant", "offset", "reading", "day", "second", "date"],
    Runs: ["parts"],
}

OBJECTS = [DaySet.every(3, 5), Zone(3600, rule=SUMMER, since=0), Moment(Zone(60), 5), Runs({5: DaySet.every(2)})]


class InterfaceTest(unittest.TestCase):

    def test_functions(self):
        for module, functions in FUNCTIONS.items():
            for name, arguments in functions.items():
                function = getattr(module, name)
                self.assertEqual(str(inspect.signature(function)), f"({arguments})")
                self.assertEqual(function.__module__, module.__name__)

    def test_classes(self):
        for kind, module in FILES.items():
            self.assertEqual(kind.__module__, module.__name__)
            for name, arguments in MAKERS[kind].items():
                self.assertIsInstance(vars(kind)[name], classmethod)
                self.assertEqual(str(inspect.signature(getattr(kind, name))), f"({arguments})")
            for name, arguments in METHODS[kind].items():
                told = f"(self, {arguments})" if arguments else "(self)"
                self.assertEqual(str(inspect.signature(vars(kind)[name])), told)
            for name in OPERATORS[kind]:
                self.assertIn(name, vars(kind))
        for one in OBJECTS:
            for name in PROPERTIES[type(one)]:
                self.assertTrue(hasattr(one, name))

    def test_errors_stand_in_their_file(self):
        for name in ("ClockError", "BadNumber", "BadDate", "BadDays", "BadYearly", "BadRow", "BadOrder", "BadZone",
                     "BadWord", "TooFew", "BadLog", "BadLimit", "BadText"):
            self.assertEqual(getattr(errors, name).__module__, errors.__name__)

    def test_package_defines_nothing(self):
        path = pathlib.Path(clockfolds.__file__)
        self.assertEqual(path.name, "__init__.py")
        self.assertEqual(path.read_text(), "")


class ConventionsTest(unittest.TestCase):

    def test_arguments_are_not_kept(self):
        days, weekdays, head, cycle = [5, 1, 5], [6, 0], [True, False], [False, True, True]
        sets = [DaySet.of(days), DaySet.weekdays(weekdays), DaySet.pattern(head, cycle)]
        before = [form(one) for one in sets]
        self.assertEqual((days, weekdays, head, cycle), ([5, 1, 5], [6, 0], [True, False], [False, True, True]))
        for given in (days, weekdays, head, cycle):
            given.clear()
        self.assertEqual([form(one) for one in sets], before)

    def test_lists_are_new(self):
        days = DaySet.pattern([True, False, True], [False, True, True, False])
        before = form(days)
        self.assertEqual(before, (3, 4, [0, 2], [4, 5]))
        days.head.clear()
        days.cycle.append(7)
        self.assertIsNot(days.head, days.head)
        self.assertEqual(form(days), before)
        self.assertIs(type(days.head), list)
        self.assertIs(type(days.cycle), list)

    def test_objects_are_not_modified(self):
        for one in OBJECTS:
            for name in PROPERTIES[type(one)]:
                with self.assertRaises(AttributeError):
                    setattr(one, name, 1)

    def test_objects_equal_nothing_but_their_kind(self):
        for one in OBJECTS:
            for other in [*OBJECTS, 5, 3600, None, "", (), [], {}, object(), type(one)]:
                self.assertIs(one == other, one is other)
                self.assertIs(one != other, one is not other)

    def test_lists_and_tuples(self):
        # A list may be passed as a tuple, but not a list where a tuple is documented.
        self.assertEqual(Zone(0, ((5, 60),)), Zone(0, [(5, 60)]))
        pair = [Moment(Zone(0), 5), Moment(Zone(0), 3)]
        self.assertEqual(comparing.order(tuple(pair)), comparing.order(pair))
        self.assertEqual(comparing.first_broken(tuple(pair)), None)
        with self.assertRaises(BadZone):
            Zone(0, [[5, 60]])
        yearly_day, *rest = SUMMER[0]
        for rule in (list(SUMMER), (list(SUMMER[0]), SUMMER[1]), ((list(yearly_day), *rest), SUMMER[1])):
            for question in (zones.check_rule, zones.rule_table, lambda rule: Zone(0, rule=rule, since=0)):
                with self.assertRaises(BadRow) as caught:
                    question(rule)
                self.assertEqual(caught.exception.index, 0)
        with self.assertRaises(BadYearly):
            yearly.day_in(list(yearly_day), 2000)

    def test_truths_are_not_numbers(self):
        zone = Zone(0)
        for truth in (True, False):
            for question in (
                lambda: Zone(truth), lambda: Zone.fixed(truth), lambda: Zone(0, rule=SUMMER, since=truth),
                lambda: zones.rule_changes(SUMMER, truth), lambda: zone.offset_at(truth),
                lambda: readings.reading_at(zone, truth), lambda: readings.instants_of(zone, truth),
                lambda: readings.fold_at(zone, truth), lambda: readings.profile(zone, truth, 5),
                lambda: readings.profile(zone, -5, truth), lambda: readings.resolved(zone, truth),
                lambda: readings.resolved(zone, 5, fold=truth), lambda: readings.days_with(zone, truth, 0),
                lambda: readings.days_with(zone, 0, truth), lambda: readings.skipped(zone, truth),
                lambda: readings.repeated(zone, truth), lambda: Moment(zone, truth),
                lambda: Moment.of(zone, 2000, 1, 1, truth), lambda: Moment(zone, 5) + truth,
                lambda: Moment(zone, 5) - truth, lambda: Moment(zone, 5).moved(fold=truth),
                lambda: comparing.first_turn(zone, truth), lambda: Runs({truth: DaySet.every(2)}),
                lambda: Runs.once([truth]), lambda: Runs({}).shifted(truth), lambda: Runs({}).how_many(truth, 5),
                lambda: Runs({}).how_many(5, truth), lambda: Runs({}).nth(truth), lambda: Runs({}).next_from(truth),
                lambda: Runs({}).last_to(truth), lambda: list(Runs({}).instants(truth, 5)),
                lambda: list(Runs({}).instants(5, truth)), lambda: runs.runs_of(zone, DaySet.every(2), truth),
                lambda: versions.moved_days(zone, zone, truth), lambda: versions.moved_readings(zone, zone, truth, 5),
                lambda: versions.moved_readings(zone, zone, -5, truth),
                lambda: versions.moved_runs(zone, zone, DaySet.every(2), truth),
                lambda: logs.in_order([(zone, 5)], truth), lambda: texts.date_text(truth),
                lambda: texts.offset_text(truth),
            ):
                with self.assertRaises(BadNumber) as caught:
                    question()
                self.assertIs(caught.exception.value, truth)

    def test_equal_calls_return_equal_results(self):
        one, other = (Zone(3600, [(5, 7200)], rule=SUMMER, since=10 ** 7) for _ in range(2))
        self.assertEqual(one.form, other.form)
        self.assertEqual(readings.profile(one, 0, 10 ** 8), readings.profile(other, 0, 10 ** 8))
        self.assertEqual(readings.skipped(one, 9000), readings.skipped(other, 9000))
        self.assertEqual(comparing.first_turn(one, 6), comparing.first_turn(other, 6))
        days = DaySet.weekdays([0])
        self.assertEqual(runs.runs_of(one, days, 9000).parts, runs.runs_of(other, days, 9000).parts)
        self.assertEqual(versions.moved_readings(one, Zone(0), 0, 10 ** 8),
                         versions.moved_readings(other, Zone(0), 0, 10 ** 8))
        limits = logs.in_order([(one, 5)] * 3, 9)
        self.assertEqual(logs.refutation([(one, 5000)] * 3, limits), logs.refutation([(other, 5000)] * 3, limits))

    def test_lists_of_readings_and_moments_are_new(self):
        zone = Zone(0, [(100, -50)])
        for question in (lambda: readings.instants_of(zone, 60), lambda: readings.profile(zone, 0, 200),
                         lambda: moments.agrees(zone, 0, 200, 60), lambda: zones.rule_changes(SUMMER, 2000),
                         lambda: comparing.order([Moment(zone, 5)]), lambda: list(zone.changes(0, 200)),
                         lambda: versions.moved_readings(zone, Zone(0), 0, 200),
                         lambda: logs.earliest([(zone, 60)], []),
                         lambda: logs.latest([(zone, 60)], []), lambda: logs.possible([(zone, 60)], []),
                         lambda: logs.refutation([(zone, 60)], [(0, 0, 1, 1)]),
                         lambda: logs.in_order([(zone, 60)] * 2)):
            found = question()
            self.assertIs(type(found), list)
            self.assertNotEqual(found, [])
            found.clear()
            self.assertNotEqual(question(), [])

    def test_by_name(self):
        self.assertIs(dates.is_number(value=1), True)
        self.assertIs(dates.is_leap(year=2000), True)
        self.assertEqual(dates.year_start(year=2001), 366)
        self.assertEqual(dates.day_of(day=1, month=2, year=2000), 31)
        self.assertEqual(dates.date_of(day=31), (2000, 2, 1))
        self.assertEqual(dates.weekday(day=2), 0)
        self.assertEqual(dates.week_of(day=2), (2000, 1, 1))
        self.assertEqual(dates.kind_of(year=2000), (5, True))
        self.assertEqual(DaySet.of(days=[3]), DaySet.span(high=4, low=3))
        self.assertEqual(DaySet.weekdays(weekdays=[0]), DaySet.every(first=2, period=7))
        self.assertEqual(DaySet.pattern(cycle=[True, False], head=[]), DaySet.every(2))
        self.assertIs(yearly.is_yearly(value=("day", 0)), True)


if __name__ == "__main__":
    unittest.main()
