import unittest

from clockfolds.daysets import DaySet
from clockfolds.errors import BadDays
from models import NO_LISTS, NO_NUMBERS, canonical, form, made, small_shapes, some_shapes, truth, truths

NO_DAYS = [*NO_LISTS, [True], [False], [0, True], [None], ["0"], [0, -1], (3, -1), [[0]], [(0,)], [{}], [-10 ** 27]]
NO_TRUTHS = [*NO_LISTS, [0], [1], (1,), [True, 0], [True, 1], [False, None], ["1"], [[True]]]


class MakersTest(unittest.TestCase):

    def check(self, days, head, cycle):
        """Compare a day set with the days that head, then cycle for ever, tell."""
        self.assertEqual(form(days), canonical(head, cycle))
        many = len(head) + 3 * len(cycle)
        self.assertEqual([day in days for day in range(many)], truths(head, cycle, many))
        for day in range(-many, 0):
            self.assertIs(day in days, False)
        for day in (10 ** 27, 10 ** 27 + 1, 10 ** 28 + 12345):
            self.assertIs(day in days, truth(head, cycle, day))
        self.assertIs(bool(days), True in head + cycle)
        self.assertIs(days.is_finite, True not in cycle)
        self.assertEqual(days, DaySet.pattern(head, cycle))

    def test_of(self):
        for days in [[], [0], [1], [5, 3, 3, 0], [2, 2, 2], [9, 8, 7], [0, 1, 2], [100, 0, 100]]:
            head = [day in days for day in range(max(days, default=-1) + 1)]
            for given in (days, tuple(days)):
                self.check(DaySet.of(given), head, [False])
        self.assertEqual(form(DaySet.of([5, 3, 3, 0])), (6, 1, [0, 3, 5], []))
        self.assertEqual(form(DaySet.of([])), (0, 1, [], []))

    def test_span(self):
        for low in range(6):
            self.check(DaySet.span(low), [False] * low, [True])
            self.check(DaySet.span(low, None), [False] * low, [True])
            self.check(DaySet.span(low=low, high=low), [], [False])
            for high in range(low, 12):
                self.check(DaySet.span(low, high), [False] * low + [True] * (high - low), [False])
        self.assertEqual(form(DaySet.span(3)), (3, 1, [], [3]))

    def test_every(self):
        for period in range(1, 9):
            cycle = [True] + [False] * (period - 1)
            self.check(DaySet.every(period), [], cycle)
            for first in range(20):
                self.check(DaySet.every(period, first), [False] * first, cycle)
                self.check(DaySet.every(first=first, period=period), [False] * first, cycle)
        self.assertEqual(form(DaySet.every(7, 9)), (3, 7, [], [9]))

    def test_weekdays(self):
        for chosen in range(128):
            weekdays = [weekday for weekday in range(7) if chosen >> weekday & 1]
            # Day 0 is a Saturday.
            cycle = [(day + 5) % 7 in weekdays for day in range(7)]
            for given in (weekdays, tuple(weekdays), weekdays[::-1] + weekdays):
                self.check(DaySet.weekdays(given), [], cycle)
        self.assertEqual(form(DaySet.weekdays([0, 1, 2, 3, 4, 5, 6])), (0, 1, [], [0]))
        self.assertEqual(form(DaySet.weekdays([5, 5])), (0, 7, [], [0]))
        self.assertEqual(form(DaySet.weekdays([])), (0, 1, [], []))

    def test_small_patterns(self):
        for head, cycle in small_shapes(4, 6):
            self.check(DaySet.pattern(head, cycle), head, cycle)

    def test_patterns(self):
        for head, cycle in some_shapes(300, 40, 40, 1):
            self.check(DaySet.pattern(tuple(head), tuple(cycle)), head, cycle)
            for turns in (2, 3, 6, 30):
                self.assertEqual(form(DaySet.pattern(head, cycle * turns)), canonical(head, cycle))
                self.assertEqual(form(DaySet.pattern(head + cycle * turns, cycle)), canonical(head, cycle))

    def test_equal_exactly_if_canonical_forms_are(self):
        sets = [made(shape) for shape in small_shapes(2, 4)]
        for one in sets:
            for other in sets:
                self.assertIs(one == other, form(one) == form(other))
                self.assertIs(one != other, form(one) != form(other))


class BadDaysTest(unittest.TestCase):

    def refused(self, value, maker, *arguments, **named):
        with self.assertRaises(BadDays) as caught:
            maker(*arguments, **named)
        self.assertIs(caught.exception.value, value)

    def test_of(self):
        for value in NO_DAYS:
            self.refused(value, DaySet.of, value)
            self.refused(value, DaySet.of, days=value)

    def test_span(self):
        for value in [*NO_NUMBERS, -1, -10 ** 27]:
            self.refused(value, DaySet.span, value)
            self.refused(value, DaySet.span, value, -2)
            self.refused(value, DaySet.span, low=value, high="x")
            if value is not None:
                self.refused(value, DaySet.span, 0, value)
        self.refused(4, DaySet.span, 5, 4)
        self.refused(0, DaySet.span, 1, 0)

    def test_every(self):
        for value in [*NO_NUMBERS, 0, -1, -7]:
            self.refused(value, DaySet.every, value)
            self.refused(value, DaySet.every, value, -1)
        for value in [*NO_NUMBERS, -1, -7]:
            self.refused(value, DaySet.every, 3, value)
            self.refused(value, DaySet.every, period=3, first=value)

    def test_weekdays(self):
        for value in [*NO_DAYS, [7], [0, 7], [-1], (6, 10 ** 27)]:
            self.refused(value, DaySet.weekdays, value)
            self.refused(value, DaySet.weekdays, weekdays=value)

    def test_pattern(self):
        for value in NO_TRUTHS:
            self.refused(value, DaySet.pattern, value, [True])
            self.refused(value, DaySet.pattern, value, [])
            self.refused(value, DaySet.pattern, [True], value)
            self.refused(value, DaySet.pattern, [], cycle=value)
        empty = []
        self.refused(empty, DaySet.pattern, [True], empty)
        self.refused(empty, DaySet.pattern, [], empty)
        self.refused((), DaySet.pattern, [], ())


class MembersTest(unittest.TestCase):

    def test_no_days(self):
        full = DaySet.span(0)
        for days in (full, DaySet.of([0, 1]), DaySet.of([]), DaySet.every(2)):
            for value in [*NO_NUMBERS, -1, -2, -10 ** 28]:
                self.assertIs(value in days, False)
        self.assertIs(1 in full, True)
        self.assertIs(10 ** 29 in full, True)

    def test_other_kinds(self):
        for days in (DaySet.of([]), DaySet.of([0]), DaySet.span(0)):
            for value in [*NO_NUMBERS, *NO_LISTS, days.head, days.cycle, [0], object()]:
                self.assertIs(days == value, False)
                self.assertIs(value == days, False)
                self.assertIs(days != value, True)


if __name__ == "__main__":
    unittest.main()
