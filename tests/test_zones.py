import itertools
import unittest

from clockfolds.dates import year_start
from clockfolds.errors import BadNumber, BadOrder, BadRow, BadZone
from clockfolds.zones import Zone
from models import NO_LISTS, NO_NUMBERS
from zone_models import BRIEF, CYCLE, DAY, SOUTH, SUMMER, TOLDS, Told, some_tolds, told_instants

NO_OFFSETS = [*NO_NUMBERS, 86400, -86400, 10 ** 30]
NO_INSTANTS = [*NO_NUMBERS, -1, -10 ** 29]
NO_CHANGES = [
    True, False, None, 0, 7, "", "ab", [], [5, 0], (), (5,), (5, 0, 0), {5: 0}, (0, 0), (-5, 0), (True, 0), (None, 0),
    ("5", 0), ([5], 0), (5, True), (5, None), (5, "0"), (5, 86400), (5, -86400), (5, (0,)),
]


class OffsetTest(unittest.TestCase):

    def check(self, told, instants):
        zone = told.zone()
        for instant in instants:
            self.assertEqual(zone.offset_at(instant), told.offset_at(instant), (vars(told), instant))

    def test_no_changes(self):
        for offset in (0, 1, -1, 86399, -86399):
            for zone in (Zone(offset), Zone(offset=offset), Zone.fixed(offset), Zone.fixed(offset=offset)):
                for instant in (0, 1, DAY, 10 ** 28, 10 ** 30 - 1):
                    self.assertEqual(zone.offset_at(instant), offset)

    def test_near_changes(self):
        for told in TOLDS + some_tolds(60, 1):
            marks = [0, *told.marks(0, told.settled() + 3 * 366 * DAY)]
            self.check(told, sorted({mark + near for mark in marks for near in (-2, -1, 0, 1, 2) if mark + near >= 0}))

    def test_before_the_first_change_of_2000(self):
        for told in TOLDS:
            if told.rule is not None and told.since == 0:
                self.assertEqual(told.zone().offset_at(0), told.offset_at(0))
                first = told_instants(told.rule, 2000)[0]
                if first > 0:
                    self.assertEqual(told.zone().offset_at(first - 1), told.rule[-1][3])
        self.assertEqual(Zone(5, rule=SOUTH, since=0).offset_at(0), -10800)

    def test_new_year(self):
        for told in TOLDS + some_tolds(20, 2):
            years = [2000, 2001, 2004, 2005, 2100, 2101, 2400, 2401, 10 ** 20]
            self.check(told, [year_start(year) * DAY + near for year in years for near in (-1, 0, 1)
                              if (year, near) != (2000, -1)])

    def test_far_away(self):
        for told in TOLDS + some_tolds(20, 3):
            for turns in (1, 10 ** 6, 10 ** 16, 10 ** 18):
                low = told.settled() // CYCLE * CYCLE + turns * CYCLE
                marks = [low + mark for mark in told.marks(0, 2 * 366 * DAY)] + told.marks(low, low + 2 * 366 * DAY)
                self.check(told, [mark + near for mark in marks for near in (-1, 0, 1)])

    def test_far_since(self):
        for since in (10 ** 28, 10 ** 28 + 12345678):
            told = Told(-3600, [(10, 0), (10 ** 27, 5)], SUMMER, since)
            instants = [0, 9, 10, 10 ** 27 - 1, 10 ** 27, *told.marks(since, since + 2 * 366 * DAY)]
            self.check(told, instants + [instant - 1 for instant in instants if instant > 0])

    def test_wrong_instants(self):
        for zone in (Zone(0), Zone(0, [(5, 6)], rule=SUMMER, since=6)):
            for value in NO_INSTANTS:
                with self.assertRaises(BadNumber) as caught:
                    zone.offset_at(value)
                self.assertIs(caught.exception.value, value)
            self.assertEqual(zone.offset_at(instant=0), 0)


class ChangesTest(unittest.TestCase):

    def test_second_by_second(self):
        for told in TOLDS + some_tolds(25, 4):
            zone = told.zone()
            marks = told.marks(0, told.settled() + 2 * 366 * DAY)
            for mark in [20, *marks]:
                low, high = max(mark - 20, 0), mark + 20
                seen = [(instant, told.offset_at(instant)) for instant in range(max(low, 1), high)
                        if told.offset_at(instant) != told.offset_at(instant - 1)]
                self.assertEqual(list(zone.changes(low, high)), seen)
                for instant in range(low, high):
                    later = [pair for pair in seen if pair[0] > instant]
                    if later:
                        self.assertEqual(zone.next_change(instant), later[0])

    def test_all_changes(self):
        for told in TOLDS + some_tolds(60, 5):
            zone = told.zone()
            high = told.settled() + 3 * 366 * DAY
            told_changes = told.real_changes(0, high)
            self.assertEqual(list(zone.changes(0, high)), told_changes)
            walked, instant = [], 0
            while zone.next_change(instant) is not None and zone.next_change(instant)[0] < high:
                walked.append(zone.next_change(instant))
                instant = walked[-1][0]
            self.assertEqual(walked, told_changes)
            if told.rule is None:
                self.assertIsNone(zone.next_change(told.settled()))
                self.assertIsNone(zone.next_change(10 ** 29))
                self.assertEqual(list(zone.changes(told.settled() + 1, 10 ** 30)), [])

    def test_bounds(self):
        zone = Zone(3600, [(10, 3600), (20, 0), (30, 0), (40, 3600)], rule=SUMMER, since=50)
        self.assertEqual(list(zone.changes(0, 41)), [(20, 0), (40, 3600)])
        self.assertEqual(list(zone.changes(20, 40)), [(20, 0)])
        self.assertEqual(list(zone.changes(low=21, high=40)), [])
        for low, high in ((20, 20), (40, 20), (41, 41), (10 ** 28, 0)):
            self.assertEqual(list(zone.changes(low, high)), [])
        self.assertEqual(zone.next_change(instant=0), (20, 0))
        self.assertEqual([zone.next_change(instant) for instant in (19, 20, 39, 40, 7347599, 7347600)],
                         [(20, 0), (40, 3600), (40, 3600), (7347600, 7200), (7347600, 7200), (26096400, 3600)])
        self.assertEqual([type(pair) for pair in zone.changes(0, 41)], [tuple, tuple])
        self.assertEqual(list(zone.changes(41, 7347600)), [])
        self.assertEqual(list(zone.changes(7347600, 26096400)), [(7347600, 7200)])
        self.assertEqual(list(zone.changes(7347601, 26096401)), [(26096400, 3600)])
        self.assertEqual(list(zone.changes(-9, 21)), [(20, 0)])
        self.assertEqual(zone.next_change(-9), (20, 0))

    def test_a_year_between_changes(self):
        zone = Zone(0, rule=BRIEF, since=0)
        gaps, instant = [], 0
        for _ in range(40):
            later = zone.next_change(instant)[0]
            gaps.append(later - instant)
            instant = later
        self.assertEqual(set(gaps[1:]), {7200, 364 * DAY - 7200, 371 * DAY - 7200})

    def test_no_numbers(self):
        for value in NO_NUMBERS:
            for question in (lambda: next(Zone(0).changes(value, 5)), lambda: next(Zone(0).changes(0, value)),
                             lambda: Zone(0).next_change(value)):
                with self.assertRaises(BadNumber) as caught:
                    question()
                self.assertIs(caught.exception.value, value)

    def test_change_at_since(self):
        # The rule's offset at since is another one than just before, or the same.
        self.assertEqual(list(Zone(0, rule=SUMMER, since=50).changes(0, 60)), [(50, 3600)])
        self.assertEqual(list(Zone(3600, rule=SUMMER, since=50).changes(0, 60)), [])
        self.assertEqual(list(Zone(0, rule=SUMMER, since=0).changes(0, 60)), [])
        self.assertEqual(list(Zone(0, [(5, 3600), (9, 0)], rule=SUMMER, since=50).changes(9, 60)), [(9, 0), (50, 3600)])
        self.assertEqual(list(Zone(0, [(5, 7200), (9, 3600)], rule=SUMMER, since=50).changes(9, 60)), [(9, 3600)])
        self.assertEqual(list(Zone(0, [(5, 7200)], rule=SUMMER, since=7347600).changes(0, 8 * 10 ** 6)), [(5, 7200)])
        self.assertEqual(Zone(0, rule=SUMMER, since=7347600).next_change(5), (7347600, 7200))
        self.assertEqual(Zone(7200, rule=SUMMER, since=7347600).next_change(5), (26096400, 3600))

    def test_far_away(self):
        for told in TOLDS:
            low = 10 ** 27 + 5 * told.settled()
            found = list(told.zone().changes(low, low + 366 * DAY))
            self.assertEqual(found, told.real_changes(low, low + 366 * DAY))
            self.assertEqual(told.zone().next_change(low), found[0] if found else None)
        late = Zone(0, [(10, 5)], rule=SUMMER, since=10 ** 29)
        self.assertEqual(late.next_change(10)[0], 10 ** 29)
        self.assertEqual(list(late.changes(11, 10 ** 29)), [])

    def test_endless(self):
        found = list(itertools.islice(Zone(3600, rule=SUMMER, since=0).changes(0, 10 ** 30), 2001))
        self.assertEqual(found[:2], [(7347600, 7200), (26096400, 3600)])
        # With two changes in each year, 800 years are 1600 changes.
        self.assertEqual(found[1600], (7347600 + 2 * CYCLE, 7200))


class WrongTest(unittest.TestCase):

    def raised(self, kind, *given, **named):
        with self.assertRaises(kind) as caught:
            Zone(*given, **named)
        return caught.exception

    def test_wrong_offsets(self):
        for value in NO_OFFSETS:
            self.assertIs(self.raised(BadNumber, value).value, value)
            self.assertIs(self.raised(BadNumber, value, None, rule=1, since=True).value, value)
            with self.assertRaises(BadNumber) as caught:
                Zone.fixed(value)
            self.assertIs(caught.exception.value, value)

    def test_no_list(self):
        for value in NO_LISTS:
            self.assertEqual(self.raised(BadZone, 0, value).index, 0)
            self.assertEqual(self.raised(BadZone, 0, value, rule=(), since=-1).index, 0)

    def test_wrong_changes(self):
        for value in NO_CHANGES:
            self.assertEqual(self.raised(BadZone, 0, [value]).index, 0, value)
            self.assertEqual(self.raised(BadZone, 0, [(1, 0), (3, 5), value, value]).index, 2, value)
            self.assertEqual(self.raised(BadZone, 0, ((1, 0), value), rule=0, since=0).index, 1, value)

    def test_not_ascending(self):
        self.assertEqual(self.raised(BadZone, 0, [(5, 0), (5, 1)]).index, 1)
        self.assertEqual(self.raised(BadZone, 0, [(5, 0), (6, 1), (4, 0), None]).index, 2)
        self.assertEqual(self.raised(BadZone, 0, [(5, 0), (10 ** 29, 1), (10 ** 29 - 1, 0)]).index, 2)
        self.assertEqual(Zone(0, [(1, 86399), (2, -86399)]).offset_at(2), -86399)

    def test_wrong_rules(self):
        self.assertEqual(self.raised(BadRow, 0, rule=(), since=True).index, 0)
        self.assertEqual(self.raised(BadRow, 0, rule=[*SUMMER], since=0).index, 0)
        self.assertEqual(self.raised(BadRow, 0, [(1, 1)], rule=(SUMMER[0], SUMMER[0])).index, 0)
        self.assertEqual(self.raised(BadRow, 0, rule=(SUMMER[0], None), since=-1).index, 1)
        error = self.raised(BadOrder, 0, rule=(SUMMER[1], SUMMER[0]), since=None)
        self.assertEqual((error.year, error.index), (2000, 1))

    def test_wrong_since(self):
        for value in NO_INSTANTS:
            self.assertIs(self.raised(BadNumber, 0, rule=SUMMER, since=value).value, value)
            self.assertIs(self.raised(BadNumber, 0, [(5, 6)], rule=SUMMER, since=value).value, value)
        for value in (0, 4, 5):
            self.assertEqual(self.raised(BadNumber, 0, [(2, 0), (5, 6)], rule=SUMMER, since=value).value, value)
        self.assertEqual(Zone(0, [(2, 0), (5, 6)], rule=SUMMER, since=6).offset_at(6), 3600)
        self.assertIsNone(self.raised(BadNumber, 0, rule=SUMMER).value)
        self.assertEqual(Zone(0, rule=SUMMER, since=0).offset_at(0), 3600)

    def test_since_without_a_rule(self):
        for value in [value for value in NO_INSTANTS if value is not None] + [0, 5, 10 ** 29]:
            self.assertIs(self.raised(BadNumber, 0, since=value).value, value)
            self.assertIs(self.raised(BadNumber, 0, [(1, 2)], rule=None, since=value).value, value)
        self.assertEqual(Zone(0, rule=None, since=None), Zone(0))


if __name__ == "__main__":
    unittest.main()
