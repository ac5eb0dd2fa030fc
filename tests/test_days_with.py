import unittest

from clockfolds.daysets import DaySet
from clockfolds.errors import BadNumber
from clockfolds.readings import days_with, instants_of, repeated, skipped
from clockfolds.zones import Zone
from models import NO_NUMBERS, form
from zone_models import DAY, HASTY, OFTEN, SUMMER, TOLDS, Told, days_told, hourly, some_tolds

YEARS = 146097
SECONDS = [0, 1, 3600, 7199, 7200, 9000, 43200, 86399]
NO_SECONDS = [*NO_NUMBERS, -1, 86400, 10 ** 30, -10 ** 30]


class DaysTest(unittest.TestCase):

    def check(self, told, second, days):
        """Compare with the instants of each of some days."""
        zone = told.zone()
        without, often, offsets = days_told(zone, second, days)
        found = skipped(zone, second)
        self.assertEqual([day for day in days if day in found], without, (vars(told), second))
        found = repeated(zone, second)
        self.assertEqual([day for day in days if day in found], often, (vars(told), second))
        for offset in {*offsets, told.offset, 17}:
            found = days_with(zone, second, offset)
            self.assertEqual([day for day in days if day in found], offsets.get(offset, []), (vars(told), second))

    def days_near(self, told):
        """The days near the changes of a zone, near the changes of its rule, and far away."""
        marks = [0, *told.marks(0, told.settled() + 400 * DAY)]
        far = [day * DAY + turns * YEARS * DAY for turns in (1, 10 ** 24) for day in (-1, 85, 152, 302, 365, 366)]
        return sorted({mark // DAY + near for mark in marks + far for near in range(-3, 4) if mark // DAY + near >= 0})

    def test_near_changes(self):
        for index, told in enumerate(TOLDS + some_tolds(15, 18)):
            for second in (SECONDS[index % 8], SECONDS[(index + 3) % 8]):
                self.check(told, second, self.days_near(told))

    def test_several_changes_within_hours(self):
        for told in (OFTEN, *hourly(8, 19)):
            for second in (0, 900, 3000, 20000, 80000):
                self.check(told, second, list(range(5)))

    def test_each_second_of_some_days(self):
        told = Told(0, [(4 * DAY - 3000, 6000), (4 * DAY + 3000, -6000), (5 * DAY, -80000), (6 * DAY, 80000)])
        for second in range(0, DAY, 1111):
            self.check(told, second, list(range(10)))

    def test_each_day_of_400_years(self):
        told = Told(0, [(10 ** 6, 60)], SUMMER, 10 ** 7)
        zone, second = told.zone(), 9000
        seen = {number: [] for number in range(3)}
        for day in range(YEARS):
            seen[len(instants_of(zone, day * DAY + second))].append(day)
        without, often = skipped(zone, second), repeated(zone, second)
        self.assertEqual(list(without.days(0, YEARS)), seen[0])
        self.assertEqual(list(often.days(0, YEARS)), seen[2])
        self.assertEqual((len(seen[0]), len(seen[2])), (399, 400))

    def test_no_rule(self):
        zone = Zone(3600, [(10 * DAY, 0), (20 * DAY, 86399), (30 * DAY, 0)])
        self.assertEqual(form(days_with(zone, 0, 3600)), (11, 1, list(range(1, 11)), []))
        self.assertEqual(form(days_with(zone, 3600, 3600)), (10, 1, list(range(10)), []))
        self.assertEqual(days_with(zone, 0, 0), DaySet.span(10, 20) | DaySet.span(30))
        self.assertEqual(days_with(zone, 86399, 86399), DaySet.span(20, 30))
        self.assertEqual(days_with(zone, 86398, 86399), DaySet.span(21, 31))
        self.assertEqual(skipped(zone, 0), DaySet.of([0, 20]))
        self.assertEqual(skipped(zone, 86398), DaySet.of([20]))
        self.assertEqual(skipped(zone, 86399), DaySet.of([]))
        self.assertEqual(repeated(zone, 0), DaySet.of([10, 30]))

    def test_day_0(self):
        zone = Zone(0, [(100, -100)])
        self.assertEqual([repeated(zone, second) for second in (0, 99, 100)],
                         [DaySet.of([0]), DaySet.of([0]), DaySet.of([])])
        self.assertEqual(days_with(zone, 0, 0), DaySet.of([0]))
        self.assertEqual(days_with(zone, 0, -100), DaySet.span(0))
        self.assertEqual(skipped(Zone(1), 0), DaySet.of([0]))

    def test_fixed(self):
        for offset in (-86399, -1, 0, 1, 86399):
            zone = Zone.fixed(offset)
            for second in (0, 1, 86398, 86399):
                first = 0 if second >= offset else 1
                self.assertEqual(days_with(zone, second, offset), DaySet.span(first))
                self.assertEqual(skipped(zone, second), DaySet.span(0, first))
                self.assertEqual(repeated(zone, second), DaySet.of([]))
                self.assertEqual(days_with(zone, second, -offset or 1), DaySet.of([]))

    def test_periods(self):
        zone = Zone(0, rule=SUMMER, since=0)
        winter, summer = days_with(zone, 9000, 3600), days_with(zone, 9000, 7200)
        self.assertEqual((winter.period, summer.period), (YEARS, YEARS))
        self.assertEqual(winter & summer, repeated(zone, 9000))
        self.assertEqual(~(winter | summer), skipped(zone, 9000))
        self.assertEqual(winter.how_many(0, YEARS) + summer.how_many(0, YEARS), YEARS)
        self.assertEqual(form(repeated(zone, 0)), (0, 1, [], []))
        self.assertEqual(days_with(zone, 0, 0), DaySet.of([]))

    def test_several_offsets_on_one_day(self):
        told = Told(0, rule=HASTY, since=0)
        for second in range(0, DAY, 4000):
            self.check(told, second, [0, 1, *range(150, 156), *range(YEARS + 150, YEARS + 156)])

    def test_late_since(self):
        told = Told(3600, [(10 ** 5 * DAY + 7, 0)], SUMMER, 10 ** 6 * DAY)
        self.check(told, 9000, [0, 1, *range(10 ** 5 - 2, 10 ** 5 + 3), *range(10 ** 6 - 3, 10 ** 6 + 300)])

    def test_by_name(self):
        zone = Zone(0, [(10 * DAY, 60)])
        self.assertEqual(days_with(offset=60, second=59, zone=zone), DaySet.span(11))
        self.assertEqual(skipped(second=59, zone=zone), DaySet.of([10]))
        self.assertEqual(repeated(second=64, zone=Zone(60, [(10 * DAY + 5, 0)])), DaySet.of([10]))
        self.assertEqual(repeated(second=65, zone=Zone(60, [(10 * DAY + 5, 0)])), DaySet.of([]))

    def test_wrong_values(self):
        zone = Zone(0)
        for value in NO_SECONDS:
            for question in (skipped, repeated, lambda zone, second: days_with(zone, second, "x")):
                with self.assertRaises(BadNumber) as caught:
                    question(zone, value)
                self.assertIs(caught.exception.value, value)
        for value in [*NO_NUMBERS, 86400, -86400]:
            with self.assertRaises(BadNumber) as caught:
                days_with(zone, 0, value)
            self.assertIs(caught.exception.value, value)


if __name__ == "__main__":
    unittest.main()
