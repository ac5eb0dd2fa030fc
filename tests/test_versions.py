import random
import unittest

from clockfolds.daysets import DaySet
from clockfolds.errors import BadNumber, BadWord
from clockfolds.readings import instants_of
from clockfolds.runs import Runs, runs_of
from clockfolds.versions import first_moved, moved_days, moved_readings, moved_runs
from clockfolds.zones import Zone, rule_changes
from models import NO_NUMBERS
from run_models import FOLDS, GAPS, LEAPS, instants_told, taken_told
from zone_models import (
    CYCLE, DAY, FOUR, HASTY, OFTEN, SOUTH, SUMMER, TOLDS, WALLS, Told, first_apart, hourly, some_tolds)

EUROPE = Zone(3600, rule=SUMMER, since=0)
EVERY = DaySet.span(0)

# The same zones, made in other ways.
WRITTEN = [pair for year in range(2000, 2020) for pair in rule_changes(SUMMER, year)]
EQUAL = [
    (EUROPE, Zone(3600, rule=WALLS, since=0)), (EUROPE, Zone(3600, WRITTEN, rule=SUMMER, since=WRITTEN[-1][0] + 5)),
    (Zone(5), Zone(5, [(9, 5), (10 ** 9, 5)])), (Zone(7, [(8, 9)]), Zone(7, [(1, 7), (8, 9), (9, 9)])),
]


def versions(many, seed):
    """Pairs of zones of which the new one is often like the old one at first, or later."""
    source = random.Random(seed)
    pairs = []
    for old in some_tolds(many, seed, 10 ** 6):
        changes = [(instant, source.choice([offset, offset, source.randint(-9000, 9000)]))
                   for instant, offset in old.changes]
        offset = source.choice([old.offset, old.offset, old.offset + 1 if old.offset < 0 else old.offset - 1])
        pairs.append((old, Told(offset, changes, old.rule, old.since)))
    return pairs


def told_moved(old, new, low, high):
    """The readings from low on and before high that have not the same instants, one by one."""
    here, there = old.shown_around(low, high), new.shown_around(low, high)
    return [reading for reading in range(low, high) if here[reading] != there[reading]]


def stretches(readings):
    """The maximal stretches of ascending readings."""
    found = []
    for reading in readings:
        if found and found[-1][1] == reading:
            found[-1] = (found[-1][0], reading + 1)
        else:
            found.append((reading, reading + 1))
    return found


class ReadingsTest(unittest.TestCase):

    def check(self, old, new, low, high):
        readings = told_moved(old, new, low, high)
        found = moved_readings(old.zone(), new.zone(), low, high)
        self.assertEqual(found, stretches(readings), (vars(old), vars(new), low))
        self.assertEqual(moved_readings(new.zone(), old.zone(), low, high), found)
        return readings

    def test_several_changes_within_hours(self):
        tolds = [OFTEN, LEAPS, Told(0), *hourly(14, 71)]
        moved = 0
        for old, new in zip(tolds, tolds[1:]):
            for low in (-90000, -2000, 0, 40000):
                moved += len(self.check(old, new, low, low + 9000))
        self.assertGreater(moved, 10 ** 4)

    def test_near_the_changes_of_rules(self):
        pairs = [(Told(3600, rule=SUMMER, since=0), new) for new in TOLDS[6::3]]
        pairs += [(Told(0, rule=HASTY, since=0), Told(0, rule=FOUR, since=10 ** 7)), *versions(6, 72)]
        moved = []
        for old, new in pairs:
            marks = [0, *old.marks(1, 366 * DAY)[:2], *new.marks(1, 2 * 366 * DAY)[-2:]]
            for mark in marks:
                moved.append(len(self.check(old, new, mark - 5000, mark + 9000)))
        self.assertGreater(len([many for many in moved if 0 < many < 14000]), 5)

    def test_far_away(self):
        old, new = Told(0, rule=SUMMER, since=0), Told(0, rule=SOUTH, since=10 ** 7)
        low = CYCLE * 10 ** 17
        self.check(old, new, low - 3000, low + 3000)
        for mark, _ in old.real_changes(low, low + 366 * DAY):
            self.check(old, new, mark - 1000, mark + 9000)
        same = Told(5, [(10 ** 6, 0)], SUMMER, 10 ** 9)
        self.assertEqual(moved_readings(old.zone(), same.zone(), low, low + 50 * 366 * DAY), [])

    def test_small_differences(self):
        # The clock of one zone falls back a second later than the other one's.
        old, new = Zone(60, [(1000, 0)]), Zone(60, [(1001, 0)])
        self.assertEqual(moved_readings(old, new, 0, 5000), [(1000, 1001), (1060, 1061)])
        self.assertEqual(moved_readings(old, new, 1000, 1001), [(1000, 1001)])
        self.assertEqual(moved_readings(old, new, 1001, 1060), [])
        self.assertEqual(first_moved(old, new), 1000)
        # A reading that is only skipped, or shown twice, in one of them moves, too.
        self.assertEqual(moved_readings(Zone(0), Zone(0, [(50, 10)]), 0, 100), [(50, 100)])
        self.assertEqual(moved_readings(Zone(0), Zone(0, [(50, 10), (70, 0)]), 0, 1000), [(50, 80)])
        self.assertEqual(moved_readings(Zone(0), Zone(0, [(50, -10), (70, 0)]), 0, 1000), [(40, 70)])

    def test_neighbouring_stretches_are_one(self):
        old, new = Zone(0), Zone(0, [(50, 10), (60, 20), (90, 0)])
        self.assertEqual(moved_readings(old, new, -10 ** 29, 10 ** 29), [(50, 110)])

    def test_below_day_0(self):
        self.assertEqual(moved_readings(Zone(-86399), Zone(-86398), -10 ** 29, 0), [(-86399, 0)])
        self.assertEqual(moved_readings(Zone(-86399), Zone(-86399, [(5, -86398)]), -10 ** 29, 9), [(-86394, 9)])
        self.assertEqual(moved_readings(Zone(5), Zone(9), -10 ** 29, 10), [(5, 10)])
        self.assertEqual(first_moved(Zone(5), Zone(9)), 5)

    def test_empty_stretch(self):
        for low in (-5, 0, 7347600, 10 ** 29):
            self.assertEqual(moved_readings(EUROPE, Zone(0), low, low), [])

    def test_equal_zones(self):
        for old, new in EQUAL:
            for one, other in ((old, new), (new, old), (old, old)):
                self.assertEqual(moved_readings(one, other, -10 ** 6, 10 ** 9), [])
                self.assertEqual(moved_readings(one, other, -10 ** 29, 10 ** 29), [])
                self.assertIsNone(first_moved(one, other))
                for second in (0, 9000, 86399):
                    self.assertEqual(moved_days(one, other, second), DaySet.of([]))

    def test_results_are_new(self):
        old, new = Zone(0), Zone(1)
        found = moved_readings(old, new, 0, 5)
        found.clear()
        self.assertEqual(moved_readings(new=new, low=0, high=5, old=old), [(0, 5)])

    def test_wrong_numbers(self):
        for zone in (EUROPE, Zone(0)):
            for value in NO_NUMBERS:
                for low, high in ((value, value), (value, "x"), (0, value)):
                    with self.assertRaises(BadNumber) as caught:
                        moved_readings(zone, EUROPE, low, high)
                    self.assertIs(caught.exception.value, value)
            for low, high in ((1, 0), (0, -1), (10 ** 29, -10 ** 29)):
                with self.assertRaises(BadNumber) as caught:
                    moved_readings(zone, EUROPE, low, high)
                self.assertEqual(caught.exception.value, high)


class FirstTest(unittest.TestCase):

    def check(self, old, new):
        apart = first_apart(old, new)
        found = first_moved(old.zone(), new.zone())
        self.assertEqual(first_moved(new.zone(), old.zone()), found)
        if apart is None:
            self.assertIsNone(found)
            return
        # No reading before this stretch has an instant at which the zones differ.
        low = apart - 86399
        tried = [low, apart, found, found - 1, apart + old.offset_at(apart), apart + new.offset_at(apart)]
        for told in (old, new):
            for mark in told.marks(low, apart + DAY):
                tried += [mark + told.offset_at(near) for near in (mark - 1, mark, apart)]
        near = sorted({reading + by for reading in tried for by in (-1, 0, 1)} | set(range(found - 300, found + 2)))
        moved = [reading for reading in near if instants_told(old, reading) != instants_told(new, reading)]
        self.assertEqual(found, moved[0], (vars(old), vars(new)))

    def test_several_changes_within_hours(self):
        tolds = [OFTEN, LEAPS, Told(0), *hourly(30, 73)]
        for old, new in zip(tolds, tolds[1:]):
            self.check(old, new)

    def test_one_by_one(self):
        for old, new in zip(hourly(20, 74), hourly(20, 75)):
            old.offset = new.offset = 0
            readings = told_moved(old, new, -30000, 60000)
            self.assertEqual(first_moved(old.zone(), new.zone()), readings[0])

    def test_zones(self):
        for old, new in [*zip(TOLDS, TOLDS[1:]), *versions(30, 76)]:
            self.check(old, new)

    def test_far_away(self):
        far = 10 ** 28
        self.assertEqual(first_moved(Zone(60, [(far, 0)]), Zone(60)), far)
        self.assertEqual(first_moved(Zone(0, [(far, 86399)]), Zone(0)), far)
        self.assertEqual(first_moved(Zone(0, [(far, -86399)]), Zone(0)), far - 86399)
        late = Zone(3600, rule=SUMMER, since=CYCLE * 10 ** 18)
        self.assertEqual(first_moved(late, Zone(3600)), CYCLE * 10 ** 18 + 7347600 + 3600)
        self.assertEqual(first_moved(new=late, old=Zone(3600)), first_moved(late, Zone(3600)))


class DaysTest(unittest.TestCase):

    def check(self, old, new, second, days):
        found = moved_days(old.zone(), new.zone(), second)
        moved = [day for day in days
                 if instants_told(old, day * DAY + second) != instants_told(new, day * DAY + second)]
        self.assertEqual([day for day in days if day in found], moved, (vars(old), vars(new), second))
        self.assertEqual(moved_days(new.zone(), old.zone(), second), found)
        return moved

    def test_against_instants(self):
        source, many = random.Random(77), 0
        for old, new in [*zip(TOLDS[::2], TOLDS[1::2]), *versions(12, 78)]:
            marks = [0, *old.marks(0, old.settled() + 400 * DAY), *new.marks(0, new.settled() + 400 * DAY)]
            near = [mark // DAY for mark in source.sample(marks, min(8, len(marks)))]
            far = [settled // DAY + turns * 146097 + day for settled in (old.settled(), new.settled())
                   for turns in (1, 10 ** 20) for day in (-1, 85, 152, 302, 365)]
            days = sorted({day + by for day in near + far for by in range(-2, 3) if day + by >= 0})
            for second in (0, 9000, source.randrange(DAY)):
                many += len(self.check(old, new, second, days))
        self.assertGreater(many, 200)

    def test_several_changes_within_hours(self):
        tolds = [OFTEN, LEAPS, Told(0), *hourly(8, 79)]
        for old, new in zip(tolds, tolds[1:]):
            for second in (0, 900, 3000, 20000, 80000):
                self.check(old, new, second, list(range(20)))

    def test_zones_that_settle_one_after_the_other(self):
        europe, days = Told(3600, rule=SUMMER, since=0), list(range(2500))
        for old, new in (
            (Told(0), Told(0, [(100 * DAY, 60), (200 * DAY, 0)])), (europe, Told(3600, [(2000 * DAY, 0)])),
            (Told(3600, [(500 * DAY, 7200), (600 * DAY, 3600)]), Told(3600, [(550 * DAY, 7200), (900 * DAY, 3600)])),
            (europe, Told(3600, [(500 * DAY, 0)], SUMMER, 1500 * DAY)), (Told(7200, [(1000 * DAY, 3600)]), Told(3600)),
        ):
            for second in (0, 9000):
                self.check(old, new, second, days)
        found = moved_days(Zone(0), Zone(0, [(100 * DAY, 60), (200 * DAY, 0)]), 30)
        self.assertEqual(found, DaySet.span(100, 201))

    def test_each_day_of_400_years(self):
        new = Zone(3600, rule=(SUMMER[0], (("until", 10, 28, 6), 3600, "utc", 3600)), since=0)
        found = moved_days(EUROPE, new, 9000)
        days = [day for day in range(146097)
                if instants_of(EUROPE, day * DAY + 9000) != instants_of(new, day * DAY + 9000)]
        self.assertEqual(list(found.days(0, 146097)), days)
        self.assertEqual(found.period, 146097)
        # In each year in which the last Sunday of October is behind the 28th, eight readings have moved.
        self.assertEqual(len(days) % 8, 0)

    def test_a_change_of_rules(self):
        since = 5000 * DAY
        new = Zone(3600, list(EUROPE.changes(0, since)), rule=SOUTH, since=since)
        found = moved_days(EUROPE, new, 43200)
        self.assertEqual(found, DaySet.span(5000))
        self.assertEqual(moved_days(second=43200, new=EUROPE, old=EUROPE), DaySet.of([]))
        stopped = Zone(3600, list(EUROPE.changes(0, since)))
        self.assertEqual(moved_days(EUROPE, stopped, 43200).next_from(0), EUROPE.next_change(since)[0] // DAY)

    def test_wrong_seconds(self):
        for value in [*NO_NUMBERS, -1, 86400, 10 ** 30]:
            with self.assertRaises(BadNumber) as caught:
                moved_days(EUROPE, EUROPE, value)
            self.assertIs(caught.exception.value, value)


class RunsTest(unittest.TestCase):

    def test_against_instants(self):
        tolds = [OFTEN, LEAPS, Told(0), *hourly(8, 80)]
        for old, new in zip(tolds, tolds[1:]):
            for days in (EVERY, DaySet.every(2, 1), DaySet.of([0, 4, 5, 9])):
                for fold, gap, second in zip(FOLDS, GAPS, (3000, 40000, 0)):
                    gone, come = moved_runs(old.zone(), new.zone(), days, second, fold=fold, gap=gap)
                    asked = [day * DAY + second for day in range(20) if day in days]
                    before = {instant for reading in asked for instant in taken_told(old, reading, fold, gap)}
                    after = {instant for reading in asked for instant in taken_told(new, reading, fold, gap)}
                    for found, told in ((gone, before - after), (come, after - before)):
                        self.assertEqual(list(found.instants(0, 18 * DAY)),
                                         sorted(instant for instant in told if instant < 18 * DAY))

    def test_rules(self):
        monday = DaySet.weekdays([0])
        new = Zone(3600, list(EUROPE.changes(0, 3000 * DAY)), rule=SOUTH, since=3000 * DAY)
        gone, come = moved_runs(EUROPE, new, monday, 32400)
        before, after = runs_of(EUROPE, monday, 32400), runs_of(new, monday, 32400)
        self.assertEqual((gone, come), (before - after, after - before))
        self.assertEqual(gone.how_many(0, 3000 * DAY), 0)
        self.assertEqual(gone.how_many(3001 * DAY, 3001 * DAY + CYCLE), 20871)
        self.assertEqual((before - gone) | come, after)

    def test_equal_zones(self):
        for old, new in EQUAL:
            for fold in FOLDS:
                pair = moved_runs(old, new, EVERY, 9000, fold=fold, gap="before")
                self.assertEqual(pair, (Runs({}), Runs({})))
                self.assertIs(type(pair), tuple)

    def test_by_name_and_defaults(self):
        old, new = EUROPE, Zone(0)
        self.assertEqual(moved_runs(old, new, EVERY, 9000), moved_runs(old, new, EVERY, 9000, fold="first", gap=None))
        self.assertEqual(moved_runs(gap="after", fold="each", second=9000, days=EVERY, new=new, old=old),
                         moved_runs(old, new, EVERY, 9000, gap="after", fold="each"))
        self.assertNotEqual(moved_runs(old, new, EVERY, 9000, gap="after"), moved_runs(old, new, EVERY, 9000))
        with self.assertRaises(TypeError):
            moved_runs(old, new, EVERY, 9000, "first")

    def test_wrong_values(self):
        for value in [*NO_NUMBERS, -1, 86400]:
            with self.assertRaises(BadNumber) as caught:
                moved_runs(EUROPE, EUROPE, EVERY, value, fold="x", gap="x")
            self.assertIs(caught.exception.value, value)
        for value in (None, True, 0, "", "all", [], ("each",), {}):
            with self.assertRaises(BadWord) as caught:
                moved_runs(EUROPE, EUROPE, EVERY, 0, fold=value, gap="x")
            self.assertIs(caught.exception.value, value)
        for value in (True, False, 0, "", "first", [], ("before",), {}):
            with self.assertRaises(BadWord) as caught:
                moved_runs(EUROPE, EUROPE, EVERY, 0, gap=value)
            self.assertIs(caught.exception.value, value)


if __name__ == "__main__":
    unittest.main()
