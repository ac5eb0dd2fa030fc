import unittest

from clockfolds.dates import day_of
from clockfolds.zones import Zone, rule_changes, rule_table
from models import NO_NUMBERS
from zone_models import (
    CYCLE, DAY, EASTERN, ENDS, HASTY, SECOND, SOUTH, SUMMER, THREE, TOLDS, WALLS, Told, first_apart, ruled, some_tolds)

# The same days and instants, told in other ways.
SAME_SUMMERS = [
    SUMMER, WALLS,
    ((("until", 3, 31, 6), 3600, "utc", 7200), (("until", 10, 31, 6), 3600, "utc", 3600)),
    ((("from", 3, 24, 5), 90000, "utc", 7200), (("last", 10, 6), 10800, "wall", 3600)),
    ((("last", 3, 6), 7200, "wall", 7200), (("from", 10, 26, 0), -75600, "wall", 3600)),
    ((("from", 3, 26, 0), -82800, "utc", 7200), (("from", 10, 25, 6), 3600, "utc", 3600)),
]

# Differ from SUMMER only in the years in which the last Sunday of March is the 31st.
RARE = ((("until", 3, 30, 6), 3600, "utc", 7200), SUMMER[1])
# Differ only in the years of one kind: leap years with five Sundays in February, such as 2004.
FOURTH = ((("nth", 2, 4, 6), 3600, "utc", 7200), SUMMER[1])
LAST = ((("last", 2, 6), 3600, "utc", 7200), SUMMER[1])


def real(told):
    """The form of a zone, by going through its changes one by one."""
    if told.rule is None:
        return told.offset_at(0), tuple(told.real_changes(0, told.settled() + 1)), None, None
    since = 0
    for begin, end, offset in told.spans(0, told.since):
        for low, high, other in Told(0, rule=told.rule, since=0).spans(begin, end):
            if other != offset:
                since = high
    return told.offset_at(0), tuple(told.real_changes(0, since)), since, rule_table(told.rule)


class EqualTest(unittest.TestCase):

    def same(self, *tolds):
        zones = [told.zone() if isinstance(told, Told) else told for told in tolds]
        for one in zones:
            for other in zones:
                self.assertTrue(one == other)
                self.assertFalse(one != other)
                self.assertIsNone(one.first_unlike(other))
                self.assertEqual(one.form, other.form)
        return zones[0]

    def apart(self, one, other, instant):
        for first, second in ((one, other), (other, one)):
            self.assertFalse(first == second)
            self.assertTrue(first != second)
            self.assertEqual(first.first_unlike(other=second), instant)
        self.assertNotEqual(one.form, other.form)
        self.assertNotEqual(one.offset_at(instant), other.offset_at(instant))
        if instant > 0:
            self.assertEqual(one.offset_at(instant - 1), other.offset_at(instant - 1))

    def test_no_real_changes(self):
        self.same(Told(60), Told(60, [(5, 60)]), Told(60, [(1, 60), (10 ** 29, 60)]), Zone.fixed(60))
        self.same(Told(60, [(5, 0)]), Told(60, [(2, 60), (5, 0), (6, 0)]))

    def test_rules_told_otherwise(self):
        self.same(*[Told(3600, rule=rule, since=0) for rule in SAME_SUMMERS])
        self.same(*[Told(0, [(77, 5)], rule, 10 ** 9) for rule in SAME_SUMMERS])

    def test_rule_from_another_instant(self):
        self.same(*[Told(3600, rule=SUMMER, since=since) for since in (0, 1, 5000, 7347599, 7347600)])
        self.same(*[Told(-7, [(7347000, 3600)], SUMMER, since) for since in (7347001, 7347600)],
                  Told(-7, rule=WALLS, since=7347000))
        self.same(*[Told(0, rule=ENDS, since=0), Told(86399, rule=ENDS, since=1),
                    Told(86399, rule=ENDS, since=366 * DAY - 1)])

    def test_changes_of_the_rule_written_out(self):
        for rule in (SUMMER, SOUTH, ENDS, EASTERN, THREE, HASTY):
            written = [pair for year in range(2000, 2010) for pair in rule_changes(rule, year) if pair[0] > 0]
            first = ruled(rule, 0)
            tolds = [Told(first, rule=rule, since=0)]
            for many in (1, 2, 3, 5, len(written) - 1):
                last, following = written[many - 1][0], written[many][0]
                tolds += [Told(first, written[:many], rule, since) for since in (last + 1, following - 1, following)
                          if since > last]
            self.same(*tolds)

    def test_changes_of_the_rule_with_one_missing(self):
        written = [pair for year in range(2000, 2006) for pair in rule_changes(SUMMER, year)]
        whole = Zone(3600, rule=SUMMER, since=0)
        for index in range(1, len(written) - 1):
            left = written[:index] + written[index + 1:]
            zone = Zone(3600, left, rule=SUMMER, since=written[-1][0] + 1)
            self.apart(zone, whole, written[index][0])
            self.assertEqual(zone.form[2], written[index + 1][0])

    def test_forms(self):
        table = rule_table(SUMMER)
        self.assertEqual(Zone(3600, rule=WALLS, since=1).form, (3600, (), 0, table))
        self.assertEqual(Zone(0, rule=WALLS, since=0).form, (3600, (), 0, table))
        self.assertEqual(Zone(0, rule=WALLS, since=1).form, (0, (), 1, table))
        self.assertEqual(Zone(0, [(5, 7200), (6, 7200), (9, 1)], rule=SUMMER, since=10).form,
                         (0, ((5, 7200), (9, 1)), 10, table))
        self.assertEqual(Zone(0, [(5, 7200), (6, 3600)], rule=SUMMER, since=8 * 10 ** 6).form,
                         (0, ((5, 7200), (6, 3600)), 8 * 10 ** 6, table))
        self.assertEqual(Zone(0, [(5, 7200), (6, 3600)], rule=SUMMER, since=7 * 10 ** 6).form,
                         (0, ((5, 7200),), 6, table))
        self.assertEqual(Zone(60, rule=SECOND, since=5).form, (60, (), 1, rule_table(SECOND)))
        self.assertEqual(Zone(60, rule=SECOND, since=0).form, (0, (), 0, rule_table(SECOND)))
        self.assertEqual(Zone(9, [(5, 9), (6, 8), (7, 8)]).form, (9, ((6, 8),), None, None))
        self.assertEqual(Zone.fixed(-3).form, (-3, (), None, None))

    def test_forms_by_going_through(self):
        for told in TOLDS + some_tolds(60, 6):
            form = told.zone().form
            self.assertEqual(form, real(told))
            self.assertEqual([type(part) for part in form[:2]], [int, tuple])
            if form[3] is not None:
                self.assertEqual(list(form[3]), [(first, leap) for first in range(7) for leap in (False, True)])

    def test_forms_are_new(self):
        zone = Zone(0, [(5, 6)], rule=SUMMER, since=9)
        zone.form[3].clear()
        self.assertEqual(zone.form[3], rule_table(SUMMER))
        self.assertEqual(zone.offset_at(7347600), 7200)

    def test_one_second_apart(self):
        whole = Zone(3600, rule=SUMMER, since=0)
        for instant in (1, 5000, 7347599, 7347600, 7347601):
            rest = Zone(3600, rule=SUMMER, since=0).offset_at(instant + 1)
            before = [(7347600, 7200)] if instant > 7347600 else []
            odd = Zone(3600, [*before, (instant, 17), (instant + 1, rest)], rule=SUMMER, since=instant + 2)
            self.apart(odd, whole, instant)
        self.apart(Zone(0), Zone(0, [(10 ** 29, 1), (10 ** 29 + 1, 0)]), 10 ** 29)
        self.apart(Zone(0), Zone(1, [(1, 0)]), 0)

    def test_far_away(self):
        far = 10 ** 28
        self.apart(Zone(3600, rule=SUMMER, since=far), Zone(3600), Zone(3600, rule=SUMMER, since=far).next_change(0)[0])
        self.apart(Zone(0, rule=SUMMER, since=far), Zone(0), far)
        self.apart(Zone(0, rule=SUMMER, since=far), Zone(0, rule=RARE, since=far),
                   first_apart(Told(0, rule=SUMMER, since=far), Told(0, rule=RARE, since=far)))
        self.apart(Zone(0, rule=SUMMER, since=far), Zone(0, rule=SUMMER, since=far + 1), far)

    def test_years_of_some_kinds(self):
        for one, other in ((SUMMER, RARE), (FOURTH, LAST), (SUMMER, THREE), (ENDS, EASTERN)):
            for since in (0, 10 ** 9, 95 * 365 * DAY + 10 ** 6):
                tolds = [Told(17, rule=rule, since=since) for rule in (one, other)]
                self.apart(*[told.zone() for told in tolds], first_apart(*tolds))
        zones = [Zone(3600, rule=rule, since=0) for rule in (FOURTH, LAST)]
        self.apart(*zones, day_of(2004, 2, 22) * DAY + 3600)
        zones = [Zone(3600, rule=rule, since=day_of(2088, 3, 1) * DAY) for rule in (FOURTH, LAST)]
        self.apart(*zones, day_of(2128, 2, 22) * DAY + 3600)

    def test_same_rule_other_beginning(self):
        self.apart(Zone(0, rule=SUMMER, since=10), Zone(0, rule=SUMMER, since=20), 10)
        self.apart(Zone(0, [(15, 5)], rule=SUMMER, since=20), Zone(0, rule=SUMMER, since=20), 15)

    def test_all_pairs(self):
        tolds = TOLDS[::2] + some_tolds(8, 7)
        for one in tolds:
            for other in tolds:
                instant = first_apart(one, other)
                if instant is None:
                    self.same(one, other)
                else:
                    self.apart(one.zone(), other.zone(), instant)

    def test_nothing_else(self):
        for zone in (Zone(0), Zone(0, rule=SUMMER, since=0)):
            for value in [*NO_NUMBERS, 0, zone.form, SUMMER, object(), Zone]:
                self.assertFalse(zone == value)
                self.assertTrue(zone != value)

    def test_arguments_are_not_kept(self):
        changes = [(5, 60), (9, 0)]
        zone = Zone(0, changes)
        self.assertEqual(changes, [(5, 60), (9, 0)])
        changes.append((10, 7))
        changes[0] = (1, 1)
        self.same(zone, Zone(0, ((5, 60), (9, 0))))
        self.same(Zone(changes=[(5, 60)], offset=0, since=9, rule=SUMMER), Zone(0, ((5, 60),), rule=SUMMER, since=9))
        with self.assertRaises(TypeError):
            Zone(0, [], SUMMER, 0)
        with self.assertRaises(AttributeError):
            zone.form = None

    def test_cycles(self):
        # From the same instant of another 400 years on, the same offsets.
        for rule in (SUMMER, SOUTH, ENDS):
            zone = Zone(0, rule=rule, since=0)
            for instant in (0, 10 ** 7, 3 * 10 ** 7):
                self.assertEqual(zone.offset_at(instant), zone.offset_at(instant + CYCLE * 10 ** 18))


if __name__ == "__main__":
    unittest.main()
