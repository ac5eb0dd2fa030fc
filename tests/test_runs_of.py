import itertools
import random
import unittest

from clockfolds.daysets import DaySet
from clockfolds.errors import BadNumber, BadWord
from clockfolds.readings import instants_of, repeated, resolved, skipped
from clockfolds.runs import Runs, runs_of
from clockfolds.zones import Zone
from models import NO_NUMBERS
from run_models import FOLDS, GAPS, LEAPS, SKIPS_A_DAY, days_to_try, taken_told
from zone_models import CYCLE, DAY, OFTEN, SUMMER, TOLDS, WALLS, Told, hourly, some_tolds

EUROPE = Zone(3600, rule=SUMMER, since=0)
YEARS = 146097
SECONDS = [0, 1, 3600, 7199, 7200, 9000, 43200, 86399]
EVERY = DaySet.span(0)
CHOICES = list(itertools.product(FOLDS, GAPS))

# Day sets that begin later, end, are empty, or have some period.
DAY_SETS = [
    EVERY, DaySet.span(3), DaySet.span(1, 5), DaySet.of([]), DaySet.of([0, 2, 3]), DaySet.weekdays([0, 5]),
    DaySet.every(2), DaySet.every(3, 1), DaySet.pattern([True, False, False, True], [True, True, False, True, False]),
]


class DayByDayTest(unittest.TestCase):

    def check(self, told, days, second, tried, choices=CHOICES):
        """Compare with the instants of the readings on some days, near which no other day is left out."""
        zone = told.zone()
        kept = [day for day in tried if {max(0, day - 2), max(0, day - 1), day + 1, day + 2} <= set(tried)]
        for fold, gap in choices:
            runs = runs_of(zone, days, second, fold=fold, gap=gap)
            self.assertIs(type(runs), Runs)
            asked = [day * DAY + second for day in tried if day in days]
            wanted = {instant for reading in asked for instant in taken_told(told, reading, fold, gap)}
            for day in kept:
                found = list(runs.instants(day * DAY, (day + 1) * DAY))
                self.assertEqual(found, sorted(instant for instant in wanted if instant // DAY == day),
                                 (vars(told), second, fold, gap, day))

    def test_near_changes(self):
        source = random.Random(61)
        for index, told in enumerate(TOLDS + some_tolds(8, 62)):
            choices = CHOICES if told.rule is None else source.sample(CHOICES, 3)
            self.check(told, DAY_SETS[index % 9], SECONDS[index % 8], days_to_try(told, source), choices)

    def test_several_changes_within_hours(self):
        for index, told in enumerate([OFTEN, LEAPS, SKIPS_A_DAY, *hourly(12, 63)]):
            for second in (0, 900, 3000, 20000, 80000):
                self.check(told, DAY_SETS[index % 9], second, list(range(20)))

    def test_each_second_of_some_days(self):
        told = Told(0, [(4 * DAY - 3000, 6000), (4 * DAY + 3000, -6000), (5 * DAY, -80000), (6 * DAY, 80000)])
        for second in range(0, DAY, 3333):
            self.check(told, EVERY, second, list(range(11)))

    def test_each_day_set(self):
        for days in DAY_SETS:
            self.check(LEAPS, days, 40000, list(range(20)))

    def test_a_day_that_is_skipped(self):
        zone = SKIPS_A_DAY.zone()
        for second in (0, 1, 43200, 86399):
            self.check(SKIPS_A_DAY, EVERY, second, list(range(16)))
            # The run of the skipped reading is that of the day before, or of the day behind.
            plain = runs_of(zone, EVERY, second)
            self.assertEqual(runs_of(zone, EVERY, second, gap="before"), plain)
            self.assertEqual(runs_of(zone, EVERY, second, gap="after"), plain)
            for gap, day in (("before", 6), ("after", 4)):
                self.assertEqual(runs_of(zone, DaySet.of([5]), second, gap=gap), runs_of(zone, DaySet.of([day]), second))
            self.assertEqual(runs_of(zone, DaySet.of([9]), second, fold="each").nth(1),
                             runs_of(zone, DaySet.of([9]), second).nth(0) + DAY)

    def test_day_0(self):
        for offset in (-86399, -3600, 0, 3600, 86399):
            told = Told(offset, [(40, 0), (50, 30), (70, -86399)])
            for second in (0, 60, 3599, 3600, 86398, 86399):
                self.check(told, EVERY, second, list(range(6)))


class RecurrencesTest(unittest.TestCase):

    def test_no_changes(self):
        for offset in (-86399, -3601, -1, 0, 1, 3600, 86399):
            for second in (0, 3600, 86399):
                for fold, gap in CHOICES:
                    runs = runs_of(Zone(offset), EVERY, second, fold=fold, gap=gap)
                    late = (second - offset) % DAY
                    first = max(0, (second - offset) // DAY)
                    self.assertEqual(runs, Runs({late: DaySet.span(first)}))

    def test_example(self):
        here = runs_of(EUROPE, DaySet.weekdays([0]), 9 * 3600)
        there = runs_of(Zone.fixed(7200), DaySet.weekdays([0]), 9 * 3600)
        self.assertEqual((here == there, here.first_unlike(there), there.first_meeting(here)), (False, 198000, 7455600))
        self.assertEqual(here.how_many(0, CYCLE), 20871)
        self.assertEqual(sorted(here.parts), [7 * 3600, 8 * 3600])
        self.assertEqual(here.first_beyond(there), 201600)
        self.assertEqual(there.first_beyond(here), 198000)
        self.assertFalse(here.within(there))

    def test_default_words(self):
        days, second = DaySet.span(80), 9000
        self.assertEqual(runs_of(EUROPE, days, second), runs_of(EUROPE, days, second, fold="first", gap=None))
        self.assertEqual(runs_of(second=second, gap="after", days=days, zone=EUROPE, fold="each"),
                         runs_of(EUROPE, days, second, fold="each", gap="after"))

    def test_counts_over_400_years(self):
        counts = {}
        for fold, gap in CHOICES:
            runs = runs_of(EUROPE, EVERY, 9000, fold=fold, gap=gap)
            counts[fold, gap] = runs.how_many(7 * CYCLE, 8 * CYCLE)
        for fold, more in (("first", 0), ("last", 0), ("each", 400)):
            self.assertEqual(counts[fold, None], YEARS - 400 + more)
            self.assertEqual((counts[fold, "before"], counts[fold, "after"]), (YEARS + more, YEARS + more))
        self.assertEqual(runs_of(EUROPE, EVERY, 9000, gap="after").how_many(0, CYCLE * 10 ** 15), YEARS * 10 ** 15)

    def test_each_day_of_400_years(self):
        zone, second, start = Zone(0, [(10 ** 6, 60)], rule=SUMMER, since=10 ** 7), 9000, 10 ** 6
        for days in (EVERY, DaySet.weekdays([6])):
            first, last, each = [], [], []
            for day in days.days(0, YEARS):
                reading = day * DAY + second
                instants = instants_of(zone, reading)
                first.extend(instants[:1] or [resolved(zone, reading, gap="before")])
                last.extend(instants[-1:] or [resolved(zone, reading, gap="after")])
                each.extend(instants)
            self.assertEqual(list(runs_of(zone, days, second, gap="before").instants(0, CYCLE - 2 * DAY)), first[:-2]
                             if days == EVERY else [instant for instant in first if instant < CYCLE - 2 * DAY])
            runs = runs_of(zone, days, second, fold="last", gap="after")
            self.assertEqual(list(runs.instants(start, CYCLE - 2 * DAY)),
                             [instant for instant in last if start <= instant < CYCLE - 2 * DAY])
            runs = runs_of(zone, days, second, fold="each")
            self.assertEqual(list(runs.instants(start, CYCLE - 2 * DAY)),
                             [instant for instant in each if start <= instant < CYCLE - 2 * DAY])

    def test_folds_and_gaps_tell_apart(self):
        first, last = (runs_of(EUROPE, EVERY, 9000, fold=fold) for fold in ("first", "last"))
        each = runs_of(EUROPE, EVERY, 9000, fold="each")
        self.assertEqual(first | last, each)
        self.assertEqual(first.first_unlike(last), 26094600)
        self.assertEqual((each - first).parts, {5400: repeated(EUROPE, 9000)})
        self.assertEqual((each - last).parts, {1800: repeated(EUROPE, 9000)})
        before, after = (runs_of(EUROPE, EVERY, 9000, gap=gap) for gap in ("before", "after"))
        self.assertEqual(((before - first).nth(0), (after - first).nth(0)), (7349400, 7345800))
        self.assertEqual((before - first).parts, {5400: skipped(EUROPE, 9000)})
        self.assertEqual((after - first).parts, {1800: skipped(EUROPE, 9000)})

    def test_equal_recurrences_in_zones_made_otherwise(self):
        for fold, gap in CHOICES:
            for second in (3600, 9000, 43200):
                one = runs_of(EUROPE, DaySet.weekdays([6]), second, fold=fold, gap=gap)
                other = runs_of(Zone(3600, rule=WALLS, since=0), DaySet.weekdays([6]), second, fold=fold, gap=gap)
                self.assertEqual(one, other)
                self.assertIsNone(one.first_unlike(other))

    def test_recurrences_in_two_zones(self):
        # At 9000, the clocks of EUROPE are never in the same hour as those of a zone that changes on other days.
        other = Zone(3600, rule=((("nth", 3, 2, 6), 7200, "wall", 7200), (("nth", 11, 1, 6), 7200, "wall", 3600)),
                     since=0)
        monday = DaySet.weekdays([0])
        here, there = runs_of(EUROPE, monday, 32400), runs_of(other, monday, 32400)
        both, apart = here & there, here ^ there
        self.assertEqual(here.first_unlike(there), apart.nth(0))
        self.assertEqual(here.first_beyond(there), (here - there).nth(0))
        self.assertEqual(here.first_meeting(there), both.nth(0))
        self.assertFalse(here.within(there))
        self.assertTrue(both.within(there))
        self.assertEqual(both.how_many(0, CYCLE) + (here - there).how_many(0, CYCLE), 20871)
        for instant in itertools.islice(apart.instants(0, CYCLE), 50):
            self.assertNotEqual(EUROPE.offset_at(instant), other.offset_at(instant))
        for instant in itertools.islice(both.instants(0, CYCLE), 200):
            self.assertEqual(EUROPE.offset_at(instant), other.offset_at(instant))
        # Each 14th day's run is one of each 7th day's.
        self.assertTrue(runs_of(EUROPE, DaySet.every(14), 9000).within(runs_of(EUROPE, DaySet.every(7), 9000)))
        never = runs_of(Zone(0), EVERY, 1800)
        self.assertIsNone(runs_of(EUROPE, EVERY, 0).first_meeting(never))

    def test_first_difference_far_away(self):
        since = 9 * 10 ** 5 * DAY
        late = Zone(3600, [pair for pair in EUROPE.changes(0, 10 ** 9)][:20], rule=SUMMER, since=since)
        one, other = runs_of(EUROPE, EVERY, 43200), runs_of(late, EVERY, 43200)
        unlike = one.first_unlike(other)
        self.assertEqual(EUROPE.offset_at(unlike) != late.offset_at(unlike), True)
        self.assertGreaterEqual(unlike, late.first_unlike(EUROPE))
        self.assertLess(unlike, late.first_unlike(EUROPE) + DAY)
        meeting = (one ^ other).last_to(10 ** 29)
        self.assertLess(meeting, since)
        self.assertTrue((one ^ other).how_many(0, since) > 4 * 10 ** 5)

    def test_arguments_are_not_modified(self):
        days = DaySet.weekdays([0])
        runs_of(EUROPE, days, 9000, fold="each", gap="before")
        self.assertEqual(days, DaySet.weekdays([0]))
        self.assertEqual(EUROPE, Zone(3600, rule=SUMMER, since=0))
        self.assertEqual(runs_of(EUROPE, days, 9000), runs_of(EUROPE, days, 9000))

    def test_wrong_values(self):
        words = [True, False, 0, 1, "", "FIRST", "each ", "before", [], ["first"], ("first",), {}, {"first": 1}]
        for value in [*NO_NUMBERS, -1, 86400, 10 ** 30]:
            with self.assertRaises(BadNumber) as caught:
                runs_of(EUROPE, EVERY, value, fold="x", gap="x")
            self.assertIs(caught.exception.value, value)
        for value in [*words, None]:
            with self.assertRaises(BadWord) as caught:
                runs_of(EUROPE, EVERY, 0, fold=value, gap="x")
            self.assertIs(caught.exception.value, value)
        for value in [*words[:7], *words[8:], "first", "last"]:
            with self.assertRaises(BadWord) as caught:
                runs_of(EUROPE, EVERY, 0, gap=value)
            self.assertIs(caught.exception.value, value)
        for arguments in ((EUROPE, EVERY, 0, "first"), (EUROPE, EVERY, 0, "first", None)):
            with self.assertRaises(TypeError):
                runs_of(*arguments)


if __name__ == "__main__":
    unittest.main()
