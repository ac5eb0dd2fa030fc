"""Numbers of 30 digits, 40 changes, days up to 10 ** 6, and lists of stretches over 100 changes."""

import unittest

from clockfolds.comparing import first_broken, first_turn, mixed, order
from clockfolds.dates import date_of, day_of
from clockfolds.daysets import DaySet
from clockfolds.moments import Moment, agrees
from clockfolds.readings import days_with, fold_at, instants_of, profile, reading_at, repeated, resolved, skipped
from clockfolds.zones import Zone, rule_changes
from zone_models import CYCLE, DAY, RULES, SUMMER, Told, days_told, told_changes

MOST = 10 ** 30 - 1
EUROPE = Told(3600, rule=SUMMER, since=0)

# 40 changes within an hour, after which the clock shows nearly the same again; and one in each month.
HASTE = Told(0, [(1000 + 90 * index, -86 * index + index * index % 17 * 5) for index in range(40)])
MONTHS = Told(7200, [(index * 30 * DAY + index ** 2, (index * 7919) % 20000 - 10000) for index in range(1, 41)])


class DigitsTest(unittest.TestCase):

    def test_instants(self):
        zone = EUROPE.zone()
        for instant in (MOST, MOST - 1, 10 ** 29, 10 ** 29 + 12345678901):
            self.assertEqual(zone.offset_at(instant), EUROPE.offset_at(instant))
            following = zone.next_change(instant)
            self.assertEqual([following], EUROPE.real_changes(instant + 1, following[0] + 1))
            self.assertEqual(list(zone.changes(instant, instant + 366 * DAY)),
                             EUROPE.real_changes(instant, instant + 366 * DAY))
            reading = reading_at(zone, instant)
            self.assertEqual(reading, instant + EUROPE.offset_at(instant))
            self.assertEqual(instants_of(zone, reading)[fold_at(zone, instant)], instant)

    def test_readings(self):
        zone = Zone(0, [(MOST - 100, 3600), (MOST - 50, -3600)])
        self.assertEqual(instants_of(zone, MOST - 101), [MOST - 101, MOST - 101 + 3600])
        self.assertEqual(instants_of(zone, MOST), [MOST + 3600])
        self.assertEqual(resolved(zone, MOST + 3600, gap="before"), MOST + 7200)
        self.assertEqual(instants_of(zone, -MOST), [])
        self.assertIsNone(resolved(zone, -MOST, fold=MOST, gap="before"))
        self.assertEqual(profile(zone, -MOST, MOST - 3700),
                         [(-MOST, 0, 0), (0, MOST - 3700, 1)])
        self.assertEqual(profile(zone, -MOST, MOST)[2:], [(MOST - 3650, MOST - 100, 2), (MOST - 100, MOST, 1)])

    def test_years(self):
        for rule in RULES:
            for year in (10 ** 22, 10 ** 27 - 1, 10 ** 27 - 2000, MOST):
                self.assertEqual(rule_changes(rule, year), told_changes(rule, year))

    def test_moments(self):
        zone = EUROPE.zone()
        moment = Moment.of(zone, 10 ** 22, 10, 29, 9000)
        self.assertEqual((moment.date, moment.second), ((10 ** 22, 10, 29), 9000))
        self.assertEqual(moment.reading, day_of(10 ** 22, 10, 29) * DAY + 9000)
        self.assertEqual(moment.moved(days=146097 * 10 ** 5) - moment, CYCLE * 10 ** 5)
        last = Moment(zone, MOST)
        self.assertEqual((last - Moment(zone, 0), (last - MOST).instant, last.date),
                         (MOST, 0, date_of((MOST + last.offset) // DAY)))
        self.assertEqual(mixed(last, Moment(Zone(0), MOST - 1)), 1)
        self.assertEqual(agrees(zone, MOST - 5, MOST, 0), [(MOST - 5, MOST)])

    def test_far_since(self):
        zone = Zone(7200, [(MOST - 50, 0)], rule=SUMMER, since=MOST)
        self.assertEqual(zone.form[:3], (7200, ((MOST - 50, 0),), MOST))
        self.assertEqual(zone.next_change(0), (MOST - 50, 0))
        self.assertEqual(first_turn(zone, 0), (MOST - 50 - 7200, MOST - 50))
        self.assertEqual(zone.first_unlike(Zone(7200)), MOST - 50)
        self.assertEqual(zone.first_unlike(Zone(7200, [(MOST - 50, 0)])), MOST)


class ChangesTest(unittest.TestCase):

    def test_forty_changes(self):
        for told in (HASTE, MONTHS):
            self.assertEqual(len(told.changes), 40)
            zone, high = told.zone(), told.changes[-1][0] + DAY
            self.assertEqual(list(zone.changes(0, high)), told.real_changes(0, high))
            for mark, _ in told.changes:
                for instant in (mark - 1, mark):
                    self.assertEqual(zone.offset_at(instant), told.offset_at(instant))
            self.assertEqual(zone.form, (told.offset, tuple(told.real_changes(0, high)), None, None))

    def test_readings_of_forty_changes(self):
        zone, shown = HASTE.zone(), HASTE.shown_around(-2000, 6000)
        self.assertGreater(max(len(instants) for instants in shown.values()), 15)
        for reading, instants in shown.items():
            self.assertEqual(instants_of(zone, reading), instants)
            self.assertEqual(resolved(zone, reading, fold=9), instants[min(9, len(instants) - 1)] if instants else None)
        for low, high, number in profile(zone, -2000, 6000):
            self.assertTrue(all(len(shown[reading]) == number for reading in range(low, high)))
        self.assertTrue(all(fold_at(zone, instant) == index for instants in shown.values()
                            for index, instant in enumerate(instants)))

    def test_zones_of_forty_changes(self):
        written = [pair for year in range(2000, 2020) for pair in rule_changes(SUMMER, year)]
        self.assertEqual(len(written), 40)
        zone = Zone(3600, written, rule=SUMMER, since=written[-1][0] + 10 ** 7)
        self.assertEqual(zone, EUROPE.zone())
        self.assertEqual(zone.form[:3], (3600, (), 0))
        fixed = Zone(3600, written)
        self.assertEqual(fixed.first_unlike(zone), zone.next_change(written[-1][0])[0])

    def test_lists_of_stretches_over_a_hundred_changes(self):
        told = EUROPE
        high = told.marks(0, 50 * 366 * DAY)[99] + DAY
        self.assertEqual(len(told.real_changes(0, high)), 100)
        zone = told.zone()
        stretches = profile(zone, 3600, high)
        self.assertEqual([number for _, _, number in stretches], [1, 0, 1, 2] * 50 + [1])
        found = agrees(zone, 0, high, 3600)
        self.assertEqual(len(found), 101)
        self.assertTrue(all(zone.offset_at(end - 1) == zone.offset_at(end + 3599) for _, end in found))
        self.assertTrue(all(zone.offset_at(end) != zone.offset_at(end + 3600) for _, end in found[:-1]))
        self.assertEqual([low for low, _ in found], [0, *[mark for mark, _ in told.real_changes(0, high)]])
        # Half a year ahead, the offset is seldom the present one.
        self.assertLess(sum(end - low for low, end in agrees(zone, 0, high, 182 * DAY)), high // 5)

    def test_many_moments(self):
        zones = [EUROPE.zone(), MONTHS.zone(), HASTE.zone(), Zone(0)]
        moments = [Moment(zones[index % 4], 10 ** 6 * (index * 37 % 101)) for index in range(101)]
        self.assertIsNone(first_broken(moments))
        self.assertEqual([len(group) for group in order(moments)], [1] * 101)


class DaysTest(unittest.TestCase):

    def check(self, told, second, days):
        zone = told.zone()
        without, often, offsets = days_told(zone, second, days)
        pairs = [(skipped(zone, second), without), (repeated(zone, second), often)]
        pairs += [(days_with(zone, second, offset), told_days) for offset, told_days in offsets.items()]
        for found, told_days in pairs:
            self.assertEqual([day for day in days if day in found], told_days)
            self.assertLessEqual(found.start, 10 ** 6 + 1)

    def test_late_changes(self):
        last = 10 ** 6 * DAY
        days = [*range(5), *range(5 * 10 ** 5 - 3, 5 * 10 ** 5 + 4), *range(10 ** 6 - 5, 10 ** 6 + 6), 10 ** 24]
        told = Told(3600, [(5 * 10 ** 5 * DAY + 77, 0), (last - 80000, 80000), (last - 5, -80000), (last, 3)])
        for second in (0, 40000, 86399):
            self.check(told, second, days)

    def test_late_rules(self):
        since = 10 ** 6 * DAY
        later = 10 ** 6 + 146097
        days = [0, 1, *range(10 ** 6 - 5, 10 ** 6 + 400), *range(later - 5, later + 400), 10 ** 24]
        for told in (Told(0, rule=SUMMER, since=since), Told(86399, [(since - 5, -86399)], SUMMER, since)):
            self.check(told, 9000, days)
        zone = Zone(0, rule=SUMMER, since=since)
        self.assertEqual(days_with(zone, 0, 0), DaySet.span(0, 10 ** 6))
        self.assertEqual(days_with(zone, 9000, 7200).period, 146097)

    def test_forty_changes(self):
        for told in (HASTE, MONTHS):
            days = sorted({max(0, mark // DAY + near) for mark, _ in told.changes for near in range(-2, 3)})
            for second in (0, 1500, 3000, 80000):
                self.check(told, second, days)


if __name__ == "__main__":
    unittest.main()
