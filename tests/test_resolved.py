import unittest

from clockfolds.errors import BadNumber, BadWord
from clockfolds.readings import instants_of, resolved
from clockfolds.zones import Zone
from models import NO_NUMBERS
from zone_models import CYCLE, DAY, HASTY, OFTEN, SUMMER, TOLDS, Told, edges, hourly, some_tolds, windows

GAPS = [None, "before", "after"]
NO_GAPS = [True, False, 0, 1, "", "Before", "after ", "first", [], ["before"], (), ("after",), {}, {"before": 1}]

# Jumps over the same readings more than once.
NESTED = Told(0, [(1000, 5000), (1500, 0), (2000, 1500), (2100, -2000), (4200, 4000)])


def told_resolved(told, reading, instants, fold, gap):
    """What the document says that resolved returns for a reading with these instants."""
    if instants:
        return instants[min(fold, len(instants) - 1)]
    if gap is None:
        return None
    jumps = [(told.offset_at(mark - 1), told.offset_at(mark)) for mark in told.marks(0, max(reading, 0) + 2 * DAY)
             if mark - 1 + told.offset_at(mark - 1) < reading < mark + told.offset_at(mark)]
    if not jumps:
        return None
    instant = reading - jumps[-1][GAPS.index(gap) - 1]
    return instant if instant >= 0 else None


class ResolvedTest(unittest.TestCase):

    def check(self, told, low, high):
        """Compare near the changes, and return how many skipped readings there are in gaps."""
        zone, shown, found = told.zone(), told.shown_around(low, high), 0
        for reading in edges(shown):
            for gap in GAPS:
                for fold in (0, 1, 2, 4, 5, 10 ** 29):
                    expected = told_resolved(told, reading, shown[reading], fold, gap)
                    self.assertEqual(resolved(zone, reading, fold=fold, gap=gap), expected, (vars(told), reading, gap))
                    found += not shown[reading] and expected is not None
        return found

    def test_near_changes(self):
        found = [self.check(told, *window) for told in TOLDS[::2] + some_tolds(10, 16) for window in windows(told)]
        self.assertGreater(sum(found), 100)

    def test_several_changes_within_hours(self):
        found = [self.check(told, -25000, 60000) for told in (OFTEN, NESTED, *hourly(12, 17))]
        self.assertGreater(sum(found), 100)
        self.check(Told(0, rule=HASTY, since=0), 152 * DAY - 50000, 153 * DAY + 90000)

    def test_all_folds(self):
        zone = OFTEN.zone()
        reading = next(reading for reading in range(0, 1000) if len(instants_of(zone, reading)) == 5)
        instants = instants_of(zone, reading)
        folds = [resolved(zone, reading, fold=fold) for fold in range(7)]
        self.assertEqual(folds, instants + [instants[-1]] * 2)
        self.assertEqual(resolved(zone, reading), instants[0])
        for gap in GAPS:
            self.assertEqual(resolved(zone, reading, fold=2, gap=gap), instants[2])

    def test_gaps(self):
        zone = Zone(3600, [(10000, 7200)])
        for reading in (13600, 15000, 17199):
            self.assertIsNone(resolved(zone, reading))
            for fold in (0, 1, 10 ** 29):
                self.assertIsNone(resolved(zone, reading, fold=fold))
                self.assertEqual(resolved(zone, reading, fold=fold, gap="before"), reading - 3600)
                self.assertEqual(resolved(zone, reading, fold=fold, gap="after"), reading - 7200)
        self.assertEqual([resolved(zone, reading, gap="after") for reading in (13599, 17200)], [9999, 10000])

    def test_two_gaps_in_a_row(self):
        zone = Zone(0, [(1000, 500), (1001, 1000)])
        self.assertEqual([resolved(zone, 1499, gap=gap) for gap in ("before", "after")], [1499, 999])
        self.assertEqual(instants_of(zone, 1500), [1000])
        self.assertEqual([resolved(zone, 1501, gap=gap) for gap in ("before", "after")], [1001, 501])

    def test_nested_gaps(self):
        # The reading 2500 is jumped over from 1000 to 6000, and then from 1999 to 3500.
        zone = Zone(0, [(1000, 5000), (1500, 0), (2000, 1500)])
        self.assertEqual(instants_of(zone, 2500), [])
        self.assertEqual(resolved(zone, 2500, gap="before"), 2500)
        self.assertEqual(resolved(zone, 2500, gap="after"), 1000)
        self.assertEqual(instants_of(zone, 4000), [2500])
        # Here, 4000 is jumped over by the first change and by the last one, but not by the third one.
        other = Zone(0, [(1000, 5000), (1500, 0), (2000, 1500), (2100, 6000)])
        self.assertEqual(instants_of(other, 4000), [])
        self.assertEqual([resolved(other, 4000, gap=gap) for gap in ("before", "after")], [2500, None])
        self.assertEqual([resolved(other, 7000, gap=gap) for gap in ("before", "after")], [5500, 1000])

    def test_before_the_first_reading(self):
        for zone in (Zone(3600), Zone(-3600), Zone(0, [(5, 60)]), Zone(0, rule=SUMMER, since=0)):
            first = zone.offset_at(0)
            for reading in (first - 1, first - 2 * DAY, -10 ** 29):
                for gap in GAPS:
                    self.assertIsNone(resolved(zone, reading, gap=gap))

    def test_gap_before_the_first_reading(self):
        # The clock falls behind its first reading, and jumps over some readings there.
        zone = Zone(0, [(100, -3600), (200, -3000)])
        self.assertEqual(instants_of(zone, -3000), [])
        self.assertEqual(resolved(zone, -3000, gap="before"), 600)
        self.assertEqual(resolved(zone, -3000, gap="after"), 0)
        self.assertEqual(resolved(zone, -3001, gap="before"), 599)
        self.assertIsNone(resolved(zone, -3001, gap="after"))
        self.assertIsNone(resolved(zone, -3501, gap="before"))
        self.assertEqual(resolved(zone, -2800), 200)

    def test_never_below_zero(self):
        zone = Zone(0, [(10, 3600)])
        self.assertEqual(resolved(zone, 10, gap="before"), 10)
        self.assertIsNone(resolved(zone, 3599, gap="after"))
        self.assertEqual(resolved(zone, 3600, gap="after"), 0)
        self.assertEqual(resolved(zone, 3600, gap="before"), 3600)
        self.assertEqual(resolved(zone, 3609, gap="after"), 9)
        self.assertEqual(resolved(zone, 3610, gap="after"), 10)

    def test_far_away(self):
        zone, far = Zone(3600, rule=SUMMER, since=10 ** 9), CYCLE * 10 ** 18
        spring = far + 85 * DAY + 9000
        self.assertEqual([resolved(zone, spring, gap=gap) for gap in GAPS], [None, far + 7349400, far + 7345800])
        autumn = far + 302 * DAY + 9000
        self.assertEqual([resolved(zone, autumn, fold=fold) for fold in range(3)],
                         [far + 26094600, far + 26098200, far + 26098200])

    def test_by_name(self):
        zone = Zone(0, [(10, 3600), (20, 0)])
        self.assertEqual(resolved(gap="before", fold=1, reading=3615, zone=zone), 3615)
        with self.assertRaises(TypeError):
            resolved(zone, 5, 0)

    def test_wrong_values(self):
        zone = Zone(0, [(10, 3600)])
        for reading in (5, 100, -5):
            for value in NO_NUMBERS:
                with self.assertRaises(BadNumber) as caught:
                    resolved(zone, value, fold=-7, gap=0)
                self.assertIs(caught.exception.value, value)
            for value in [*NO_NUMBERS, -1, -10 ** 29]:
                with self.assertRaises(BadNumber) as caught:
                    resolved(zone, reading, fold=value, gap=0)
                self.assertIs(caught.exception.value, value)
            for value in NO_GAPS:
                with self.assertRaises(BadWord) as caught:
                    resolved(zone, reading, gap=value)
                self.assertIs(caught.exception.value, value)


if __name__ == "__main__":
    unittest.main()
