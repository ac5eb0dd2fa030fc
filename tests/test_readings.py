import random
import unittest

from clockfolds.errors import BadNumber
from clockfolds.readings import fold_at, instants_of, profile, reading_at
from clockfolds.zones import Zone
from models import NO_NUMBERS
from zone_models import CYCLE, DAY, HASTY, OFTEN, SUMMER, TOLDS, Told, edges, hourly, some_tolds, windows

class InstantsTest(unittest.TestCase):

    def check(self, told, low, high):
        zone, shown = told.zone(), told.shown_around(low, high)
        for reading in edges(shown):
            found = instants_of(zone, reading)
            self.assertEqual(found, shown[reading], (vars(told), reading))
            for fold, instant in enumerate(found):
                self.assertEqual(reading_at(zone, instant), reading)
                self.assertEqual(fold_at(zone, instant), fold)
        return max(len(instants) for instants in shown.values())

    def test_near_changes(self):
        for told in TOLDS + some_tolds(20, 8):
            for low, high in windows(told):
                self.check(told, low, high)

    def test_several_changes_within_hours(self):
        most = [self.check(told, -25000, 60000) for told in hourly(20, 9)]
        self.assertGreaterEqual(max(most), 3)
        self.assertEqual(self.check(OFTEN, -3000, 20000), 5)
        self.assertEqual(self.check(Told(-30000, rule=HASTY, since=0), 152 * DAY - 50000, 153 * DAY + 90000), 4)

    def test_no_readings_before_the_first_one(self):
        for offset in (0, 1, -1, 86399, -86399):
            zone = Zone.fixed(offset)
            self.assertEqual(instants_of(zone, offset), [0])
            self.assertEqual(instants_of(zone, offset + 5), [5])
            for reading in (offset - 1, offset - 2 * DAY, -10 ** 29):
                self.assertEqual(instants_of(zone, reading), [])
        self.assertEqual(reading_at(Zone.fixed(-5), 0), -5)

    def test_readings_before_the_first_one_shown_later(self):
        zone = Zone(0, [(100, -3600)])
        self.assertEqual(instants_of(zone, -3500), [100])
        self.assertEqual(instants_of(zone, -1), [3599])
        self.assertEqual(instants_of(zone, -3501), [])
        self.assertEqual(instants_of(zone, 0), [0, 3600])
        self.assertEqual([fold_at(zone, instant) for instant in (0, 99, 3600, 3599, 3700)], [0, 0, 1, 0, 0])

    def test_far_offsets(self):
        # The same reading at both ends of almost two days.
        zone = Zone(86399, [(172798, -86399)])
        self.assertEqual(instants_of(zone, 86399), [0, 172798])
        self.assertEqual(instants_of(zone, 86400), [1, 172799])
        self.assertEqual(fold_at(zone, 172798), 1)
        self.assertEqual(instants_of(Zone(-86399, [(1, 86399)]), 5), [])

    def test_far_away(self):
        zone = Zone(3600, rule=SUMMER, since=10 ** 9)
        far = CYCLE * 10 ** 18
        for reading in (26096400 + 3600, 26096400 + 7199, 26096400 + 7200, 7347600 + 3600, 7347600 + 7199):
            early = instants_of(Zone(3600, rule=SUMMER, since=0), reading)
            self.assertEqual(instants_of(zone, reading + far), [instant + far for instant in early])
            for fold, instant in enumerate(early):
                self.assertEqual(reading_at(zone, instant + far), reading + far)
                self.assertEqual(fold_at(zone, instant + far), fold)

    def test_by_name_and_new_lists(self):
        zone = Zone(0, [(100, -50)])
        self.assertEqual(reading_at(instant=100, zone=zone), 50)
        self.assertEqual(instants_of(reading=60, zone=zone), [60, 110])
        self.assertEqual(fold_at(instant=110, zone=zone), 1)
        found = instants_of(zone, 60)
        found.clear()
        self.assertEqual(instants_of(zone, 60), [60, 110])

    def test_wrong_values(self):
        zone = Zone(0, [(100, -50)])
        no_instants = [*NO_NUMBERS, -1]
        for question, values in ((reading_at, no_instants), (fold_at, no_instants), (instants_of, NO_NUMBERS)):
            for value in values:
                with self.assertRaises(BadNumber) as caught:
                    question(zone, value)
                self.assertIs(caught.exception.value, value)


class ProfileTest(unittest.TestCase):

    def check(self, told, low, high):
        """Compare with the instants of each reading, and return the numbers of instants that occur."""
        shown, stretches = told.shown_around(low, high), profile(told.zone(), low, high)
        self.assertEqual([begin for begin, _, _ in stretches], [low, *[end for _, end, _ in stretches[:-1]]])
        self.assertEqual(stretches[-1][1], high)
        for begin, end, number in stretches:
            self.assertLess(begin, end)
            self.assertTrue(all(len(shown[reading]) == number for reading in range(begin, end)), (begin, end, number))
        for one, other in zip(stretches, stretches[1:]):
            self.assertNotEqual(one[2], other[2])
        return {number for _, _, number in stretches}

    def test_near_changes(self):
        for told in TOLDS + some_tolds(20, 10):
            for low, high in windows(told):
                self.check(told, low, high)

    def test_several_changes_within_hours(self):
        for told in hourly(20, 11):
            self.check(told, -25000, 60000)
        self.assertEqual(self.check(OFTEN, -5000, 20000), {0, 1, 2, 3, 4, 5})
        hasty = Told(0, rule=HASTY, since=0)
        self.assertEqual(self.check(hasty, 152 * DAY - 50000, 153 * DAY + 90000), {0, 1, 2, 3, 4})

    def test_any_bounds(self):
        source = random.Random(12)
        for told in (OFTEN, *hourly(3, 13)):
            for _ in range(20):
                low = source.randint(-4000, 12000)
                self.check(told, low, low + source.randint(1, 3000))

    def test_empty_stretches(self):
        for low in (-10 ** 29, -1, 0, 1300, 10 ** 29):
            self.assertEqual(profile(OFTEN.zone(), low, low), [])

    def test_one_stretch(self):
        self.assertEqual(profile(Zone.fixed(7200), 7200, 10 ** 30), [(7200, 10 ** 30, 1)])
        self.assertEqual(profile(Zone.fixed(7200), -10 ** 29, 7200), [(-10 ** 29, 7200, 0)])
        self.assertEqual(profile(Zone.fixed(7200), 7199, 7201), [(7199, 7200, 0), (7200, 7201, 1)])

    def test_numbers_add_up(self):
        for told in (OFTEN, *hourly(5, 14), *some_tolds(5, 15, 10 ** 5)):
            zone, low, high = told.zone(), -30000, 150000
            shown = told.shown(0, high + DAY)
            many = sum(len(instants) for reading, instants in shown.items() if low <= reading < high)
            self.assertEqual(sum((end - begin) * number for begin, end, number in profile(zone, low, high)), many)
            self.assertEqual(sum(len(instants_of(zone, reading)) for reading in range(700, 1700)),
                             sum(len(shown.get(reading, [])) for reading in range(700, 1700)))

    def test_numbers_add_up_for_ever(self):
        # As the readings repeat after 400 years, they have as many instants as 400 years have seconds.
        for told in TOLDS:
            low = told.settled() + 2 * DAY
            stretches = profile(told.zone(), low, low + CYCLE)
            self.assertEqual(sum((end - begin) * number for begin, end, number in stretches), CYCLE)

    def test_two_changes_in_each_year(self):
        stretches = profile(Zone(3600, rule=SUMMER, since=0), 3600, 49 * 365 * DAY)
        self.assertEqual([number for _, _, number in stretches], [1, 0, 1, 2] * 49 + [1])

    def test_by_name_and_new_lists(self):
        zone = Zone(0, [(100, -50)])
        self.assertEqual(profile(high=120, low=0, zone=zone), [(0, 50, 1), (50, 100, 2), (100, 120, 1)])
        profile(zone, 0, 120).clear()
        self.assertEqual([type(part) for part in profile(zone, 0, 120)], [tuple] * 3)

    def test_wrong_values(self):
        for value in NO_NUMBERS:
            for given, wrong in (((value, 0), value), ((0, value), value), ((value, None), value)):
                with self.assertRaises(BadNumber) as caught:
                    profile(Zone(0), *given)
                self.assertIs(caught.exception.value, wrong)
        for low, high in ((1, 0), (0, -1), (-5, -6), (10 ** 29, 10 ** 29 - 1)):
            with self.assertRaises(BadNumber) as caught:
                profile(Zone(0), low, high)
            self.assertEqual(caught.exception.value, high)


if __name__ == "__main__":
    unittest.main()
