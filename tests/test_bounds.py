"""Runs, versions, logs and texts up to the bounds of the conventions."""

import itertools
import random
import unittest

from clockfolds.dates import day_of
from clockfolds.daysets import DaySet
from clockfolds.logs import earliest, in_order, is_refutation, latest, possible, refutation
from clockfolds.moments import Moment
from clockfolds.readings import instants_of, repeated
from clockfolds.runs import Runs, runs_of
from clockfolds.texts import date_text, moment_text, read_date, read_moment, read_zone, zone_text
from clockfolds.versions import first_moved, moved_days, moved_readings, moved_runs
from clockfolds.zones import Zone, rule_changes
from log_models import NINE, is_told_refutation
from run_models import FOLDS, GAPS, instants_told, taken_told
from zone_models import CYCLE, DAY, FOUR, SOUTH, SUMMER, Told

MOST = 10 ** 30 - 1
EVERY = DaySet.span(0)
EUROPE = Zone(3600, rule=SUMMER, since=0)
SECONDS = [index * 863 for index in range(100)]

# Forty changes, some of which change nothing, within minutes and over years.
HASTE = Told(0, [(37 * turn + 5, (turn * 7919) % 3001 - 1500) for turn in range(40)])
MONTHS = Told(0, [(30 * DAY * turn + 5000, 1800 * (turn * 5 % 7)) for turn in range(1, 41)])


class RunsTest(unittest.TestCase):

    def test_hundred_seconds(self):
        sets = [DaySet.every(index % 7 + 1, index % 11) for index in range(100)]
        runs = Runs(dict(zip(reversed(SECONDS), sets)))
        self.assertEqual(list(runs.parts), SECONDS)
        self.assertEqual([runs.parts[second] for second in SECONDS], sets[::-1])
        told = [day * DAY + second for day in range(40) for second in SECONDS if day in runs.parts[second]]
        self.assertEqual(list(runs.instants(0, 40 * DAY)), told)
        self.assertEqual([runs.nth(number) for number in range(0, len(told), 50)], told[::50])
        # From day 11 on, all parts repeat after 420 days.
        early, each = runs.how_many(0, 20 * DAY), runs.how_many(20 * DAY, 440 * DAY)
        for turns in (1, 10 ** 10, 10 ** 22):
            self.assertEqual(runs.nth(early + 7 + turns * each), told[early + 7] + turns * 420 * DAY)
        for number in (10 ** 24, 10 ** 28 + 5):
            instant = runs.nth(number)
            self.assertIn(instant, runs)
            self.assertEqual(runs.how_many(0, instant), number)
            self.assertEqual((runs.next_from(instant), runs.last_to(instant)), (instant, instant))

    def test_hundred_seconds_of_a_zone(self):
        one = Runs({})
        for second in SECONDS[::2]:
            one = one | runs_of(EUROPE, DaySet.weekdays([0, 3]), second)
        self.assertGreater(len(one.parts), 50)
        self.assertLessEqual(len(one.parts), 100)
        other = one.shifted(7 * DAY)
        self.assertEqual(other.shifted(-7 * DAY), one)
        self.assertEqual((one | other, one & other, one - other), (other | one, other & one, one ^ (one & other)))
        self.assertEqual(one.first_unlike(other), one.nth(0))
        self.assertIsNone(one.first_unlike(other.shifted(-7 * DAY)))
        self.assertTrue((one & other).within(one))
        # The clock skips and repeats readings on Sundays only.
        self.assertEqual(one.how_many(CYCLE, 2 * CYCLE), 50 * 2 * 20871)

    def test_far_instants(self):
        instants = [0, 10 ** 20, 10 ** 29, MOST - 1, MOST]
        runs = Runs.once(instants[::-1])
        self.assertEqual(list(runs.instants(0, MOST + 1)), instants)
        self.assertEqual([runs.nth(number) for number in range(5)], instants)
        self.assertEqual((runs.how_many(1, MOST), runs.next_from(10 ** 29 + 1), runs.last_to(MOST - 2)),
                         (3, MOST - 1, 10 ** 29))
        self.assertTrue(all(instant in runs for instant in instants))
        self.assertEqual(runs.shifted(-MOST), Runs.once([0]))
        self.assertEqual(runs - Runs.once([MOST]), Runs.once(instants[:-1]))

    def test_far_windows(self):
        runs = runs_of(EUROPE, DaySet.weekdays([0]), 32400)
        for low in (CYCLE * 10 ** 19, CYCLE * 7 * 10 ** 18 + 12345678):
            found = list(itertools.islice(runs.instants(low, MOST), 30))
            self.assertEqual(found, [instant for instant in range(low - low % 1800, low + 31 * 7 * DAY, 1800)
                                     if low <= instant and instant in runs][:30])
            for instant in found:
                self.assertEqual((instant + EUROPE.offset_at(instant)) % DAY, 32400)
                self.assertEqual(runs.nth(runs.how_many(0, instant)), instant)

    def test_long_periods(self):
        for period in (4, 5, 6):
            days = DaySet.every(period, 1)
            first, each = (runs_of(EUROPE, days, 9000, fold=fold, gap="after") for fold in ("first", "each"))
            self.assertLessEqual(max(part.period for part in each.parts.values()), 6 * 146097)
            low, high = 2 * DAY, 2 * DAY + period * CYCLE
            self.assertEqual(first.how_many(low, high), 146097)
            self.assertEqual(each.how_many(low, high),
                             146097 + (days & repeated(EUROPE, 9000)).how_many(2, 2 + period * 146097))

    def test_late_zones(self):
        last = 10 ** 6 * DAY
        for told in (Told(3600, [(last // 2, 0), (last - 80000, 80000), (last - 5, -80000), (last, 3)]),
                     Told(86399, [(last - 5, -86399)], SUMMER, last)):
            zone = told.zone()
            days = [0, 1, *range(5 * 10 ** 5 - 3, 5 * 10 ** 5 + 4), *range(10 ** 6 - 5, 10 ** 6 + 6), 10 ** 24,
                    10 ** 24 + 1]
            for fold, gap in zip(FOLDS, GAPS):
                runs = runs_of(zone, EVERY, 40000, fold=fold, gap=gap)
                for day in days:
                    for instant in taken_told(told, day * DAY + 40000, fold, gap):
                        self.assertIn(instant, runs)
                self.assertLess(runs.how_many(0, last), 10 ** 6 + 3)


class VersionsTest(unittest.TestCase):

    def test_lists_of_stretches_over_a_hundred_changes(self):
        low, high = 0, 24 * 366 * DAY
        changes = list(EUROPE.changes(low, high))
        self.assertTrue(45 <= len(changes) <= 50)
        other = Zone(3600, rule=((("nth", 3, 2, 6), 7200, "wall", 7200), (("nth", 11, 1, 6), 10800, "wall", 3600)),
                     since=0)
        found = moved_readings(EUROPE, other, low, high)
        self.assertTrue(45 <= len(found) <= 50)
        for begin, end in found:
            for reading, moved in ((begin - 1, False), (begin, True), (end - 1, True), (end, False)):
                self.assertIs(instants_of(EUROPE, reading) != instants_of(other, reading), moved)
        self.assertEqual(sorted(found), found)

    def test_forty_changes(self):
        for told in (HASTE, MONTHS):
            self.assertEqual(len(told.changes), 40)
            for new in (Told(0), Told(0, told.changes[:30]),
                        Told(0, [(mark + 1, offset) for mark, offset in told.changes])):
                found = moved_readings(told.zone(), new.zone(), -10 ** 5, 2 * 10 ** 8)
                self.assertEqual(first_moved(told.zone(), new.zone()), found[0][0])
                marks = {reading + by for pair in found for reading in pair for by in (-1, 0)}
                for reading in marks - {2 * 10 ** 8}:
                    moved = any(low <= reading < high for low, high in found)
                    self.assertIs(instants_told(told, reading) != instants_told(new, reading), moved)
                days = moved_days(told.zone(), new.zone(), 700)
                for day in range(1300):
                    self.assertIs(day in days, any(low <= day * DAY + 700 < high for low, high in found))

    def test_far_readings(self):
        far = Zone(0, [(MOST - 100, 3600)], rule=SUMMER, since=MOST)
        self.assertEqual(first_moved(Zone(0), far), MOST - 100)
        self.assertEqual(moved_readings(Zone(0), far, -MOST, MOST), [(MOST - 100, MOST)])
        late = CYCLE * 10 ** 19
        self.assertEqual(moved_readings(EUROPE, Zone(3600), late + 7347600 + 3500, late + 7347600 + 3700),
                         [(late + 7347600 + 3600, late + 7347600 + 3700)])

    def test_late_runs(self):
        old, new = Zone(3600, rule=SUMMER, since=0), Zone(3600, rule=SUMMER, since=10 ** 6 * DAY)
        gone, come = moved_runs(old, new, EVERY, 43200)
        self.assertEqual(gone.how_many(0, MOST), come.how_many(0, MOST))
        self.assertGreater(gone.how_many(0, MOST), 5 * 10 ** 5)
        self.assertEqual(gone.shifted(3600), come)


class LogsTest(unittest.TestCase):

    def test_twelve_entries_and_forty_limits(self):
        source, found = random.Random(121), []
        for _ in range(40):
            entries = [(NINE, source.randrange(500, 600)) for _ in range(12)]
            limits = []
            for _ in range(40):
                (one, other), least = source.sample(range(12), 2), source.randint(-900, 0)
                limits.append((one, other, least, least + source.choice([800, 900, 1000])))
            steps = refutation(entries, limits)
            found.append(steps is None)
            if steps is None:
                first, last, columns = earliest(entries, limits), latest(entries, limits), possible(entries, limits)
                for instants in (first, last):
                    for one, other, least, most in limits:
                        self.assertTrue(least <= instants[other] - instants[one] <= most)
                self.assertEqual([column[0] for column in columns], first)
                self.assertEqual([column[-1] for column in columns], last)
            else:
                self.assertTrue(is_told_refutation(entries, limits, steps))
                self.assertTrue(is_refutation(entries, limits, steps))
                self.assertEqual(possible(entries, limits), [[]] * 12)
        self.assertGreater(min(found.count(True), found.count(False)), 5)

    def test_many_instants_of_each_reading(self):
        zone = Zone(0, [(600 + 100 * turn, -100 - 100 * turn) for turn in range(40)])
        entries = [(zone, 505 + 8 * index) for index in range(12)]
        self.assertEqual(len(instants_of(zone, 505)), 41)
        # Each entry is one turn of the clock after the one before it.
        limits = in_order(entries, 100)
        self.assertEqual(earliest(entries, limits), [505 + 108 * index for index in range(12)])
        self.assertEqual(latest(entries, limits), [4505 - 1100 + 108 * index for index in range(12)])
        self.assertEqual([len(column) for column in possible(entries, limits)], [30] * 12)
        limits = in_order(entries, 400)
        self.assertTrue(is_refutation(entries, limits, refutation(entries, limits)))

    def test_far_readings(self):
        zone = Zone(0, [(MOST - 5000, -1000)])
        entries = [(zone, MOST - 5500), (zone, MOST - 5400), (Zone(0), MOST - 5000)]
        self.assertEqual(possible(entries, in_order(entries)), [[MOST - 5500], [MOST - 5400], [MOST - 5000]])
        self.assertEqual(possible(entries, [(0, 1, 500, 10 ** 29), (2, 0, -10 ** 29, None)]),
                         [[MOST - 5500], [MOST - 4400], [MOST - 5000]])
        self.assertEqual(refutation(entries, [(0, 1, 10 ** 29, None)])[-1][2], 0)


class TextsTest(unittest.TestCase):

    def test_dates(self):
        for year in (10 ** 29, MOST, -10 ** 29, -MOST):
            day = day_of(year, 12, 31)
            self.assertEqual(date_text(day), f"{year}-12-31")
            self.assertEqual(read_date(f"{year}-12-31"), day)
        for day in (MOST, -MOST):
            self.assertEqual(read_date(date_text(day)), day)

    def test_moments(self):
        for instant in (MOST, MOST - 12345, 10 ** 29):
            text = moment_text(Moment(EUROPE, instant))
            self.assertEqual(read_moment(EUROPE, text).instant, instant)
        moment = Moment.of(EUROPE, 10 ** 22, 10, 29, 9000, fold=0)
        self.assertEqual(moment_text(moment),
                         f"{10 ** 22}-10-29T02:30:00{'+02:00' if moment.offset == 7200 else '+01:00'}")

    def test_zones_of_forty_changes(self):
        written = [pair for year in range(2000, 2020) for pair in rule_changes(SUMMER, year)]
        for zone in (HASTE.zone(), MONTHS.zone(), Zone(0, written, rule=FOUR, since=MOST),
                     Zone(0, [(MOST - 39 + turn, turn) for turn in range(40)]),
                     Zone(5, written, rule=SOUTH, since=10 ** 29)):
            text = zone_text(zone)
            self.assertEqual(text.count("change "), 40)
            self.assertEqual(zone_text(read_zone(text)), text)
            self.assertEqual(read_zone(text), zone)


if __name__ == "__main__":
    unittest.main()
