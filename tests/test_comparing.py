import functools
import itertools
import random
import unittest

from clockfolds.comparing import first_broken, first_turn, mixed, order
from clockfolds.errors import BadNumber
from clockfolds.moments import Moment
from clockfolds.zones import Zone
from models import NO_NUMBERS
from zone_models import CYCLE, DAY, HASTY, OFTEN, SOUTH, SUMMER, TOLDS, WALLS, Told, hourly, some_tolds

EUROPE = Zone(3600, rule=SUMMER, since=0)
SAME = Zone(3600, [(7347600, 7200)], rule=WALLS, since=7347601)
UTC = Zone(0)
AUTUMN = 26096400


def told_mixed(one, other):
    """What the document says that mixed returns."""
    same = one.zone.first_unlike(other.zone) is None
    first, second = (one.reading, other.reading) if same else (one.instant, other.instant)
    return (first > second) - (first < second)


def tried_triples(moments):
    """The least broken triple, by trying all of them."""
    sign = [[told_mixed(one, other) for other in moments] for one in moments]
    for one, other, third in itertools.product(range(len(moments)), repeat=3):
        if sign[one][other] <= 0 and sign[other][third] <= 0 and sign[one][third] > 0:
            return one, other, third
    return None


def sorted_groups(moments):
    """The groups of equal moments, by sorting them."""
    def compare(one, other):
        return told_mixed(moments[one], moments[other])
    indexes = sorted(range(len(moments)), key=functools.cmp_to_key(compare))
    groups = []
    for index in indexes:
        if groups and compare(groups[-1][0], index) == 0:
            groups[-1].append(index)
        else:
            groups.append([index])
    return groups


def hint(moments):
    """Whether a list is consistent, as the note in the document says."""
    for one, other in itertools.product(moments, repeat=2):
        if one.zone != other.zone:
            continue
        instants, readings = one.instant - other.instant, one.reading - other.reading
        if (instants > 0) - (instants < 0) == (readings > 0) - (readings < 0):
            continue
        low, high = sorted([one.instant, other.instant])
        if any(third.zone != one.zone and low <= third.instant <= high for third in moments):
            return False
    return True


class MixedTest(unittest.TestCase):

    def test_examples(self):
        early, late = Moment(EUROPE, AUTUMN - 1), Moment(EUROPE, AUTUMN)
        self.assertEqual((mixed(early, late), mixed(late, early), mixed(late, late)), (1, -1, 0))
        again = Moment(EUROPE, AUTUMN - 3600)
        self.assertEqual((mixed(late, again), again == late), (0, False))
        self.assertEqual(mixed(one=early.in_zone(UTC), other=late), -1)

    def test_against_the_document(self):
        zones = [EUROPE, SAME, UTC, Zone(3600), Zone(3600, [(AUTUMN, 0)]), Zone(3600, [(5, 3600), (AUTUMN, 0)])]
        instants = [AUTUMN - 3600, AUTUMN - 1, AUTUMN, AUTUMN + 3600]
        moments = [Moment(zone, instant) for zone in zones for instant in instants]
        for one in moments:
            for other in moments:
                sign = mixed(one, other)
                self.assertEqual(sign, told_mixed(one, other))
                self.assertIs(type(sign), int)
        # Equal zones that were made in other ways.
        self.assertEqual(mixed(Moment(EUROPE, AUTUMN - 1), Moment(SAME, AUTUMN)), 1)
        self.assertEqual(mixed(Moment(zones[4], AUTUMN - 1), Moment(zones[5], AUTUMN)), 1)
        self.assertEqual(mixed(Moment(zones[4], AUTUMN - 1), Moment(EUROPE, AUTUMN)), -1)


class BrokenTest(unittest.TestCase):

    def check(self, moments):
        triple = tried_triples(moments)
        self.assertEqual(first_broken(moments), triple)
        self.assertEqual(order(moments), None if triple else sorted_groups(moments))
        self.assertEqual(hint(moments), triple is None)
        return triple

    def test_short_lists(self):
        self.assertIsNone(first_broken([]))
        self.assertEqual(order([]), [])
        self.assertIsNone(first_broken([Moment(UTC, 5)]))
        self.assertEqual(order([Moment(UTC, 5)]), [[0]])
        self.assertEqual(order((Moment(UTC, 5), Moment(EUROPE, 5), Moment(UTC, 3))), [[2], [0, 1]])
        self.assertIsNone(first_broken(()))

    def test_example(self):
        early, late, other = Moment(EUROPE, AUTUMN - 1), Moment(EUROPE, AUTUMN), Moment(UTC, AUTUMN)
        self.assertEqual(first_broken(moments=[early, late, other]), (0, 2, 1))
        self.assertEqual(self.check([early, late, other]), (0, 2, 1))
        self.assertIsNone(order([early, late, other]))
        self.assertEqual(order(moments=[early, late]), [[1], [0]])

    def test_one_zone_is_consistent(self):
        for told in (OFTEN, *hourly(3, 23)):
            moments = [Moment(told.zone(), instant) for instant in range(0, 4000, 97)]
            self.assertIsNone(self.check(moments))

    def test_all_lists_of_some_moments(self):
        moments = [Moment(zone, instant) for zone in (EUROPE, UTC) for instant in (AUTUMN - 3600, AUTUMN - 1, AUTUMN)]
        found = {self.check(list(chosen)) for many in range(4) for chosen in itertools.product(moments, repeat=many)}
        self.assertGreater(len(found), 5)

    def test_random_lists(self):
        source, found = random.Random(24), []
        zones = [told.zone() for told in (OFTEN, Told(0), Told(0, [(2000, -300)]), Told(0, [(500, 60), (2000, -300)]))]
        zones += [Zone(0, [(2000, -300)]), Zone(0, [(1, 0), (2000, -300)])]
        for _ in range(300):
            used = source.sample(zones, source.randint(1, 4))
            low, spread = source.choice([(0, 9000), (1700, 600), (1900, 600), (2000, 600)])
            moments = [Moment(source.choice(used), low + source.randrange(spread)) for _ in range(source.randint(3, 9))]
            found.append(self.check(moments))
        self.assertGreater(found.count(None), 30)
        self.assertGreater(len(set(found)), 30)

    def test_long_list(self):
        moments = [Moment(UTC, 10 * instant) for instant in range(300)]
        moments += [Moment(Zone(0, [(5000, -60)]), 10 * instant + 5) for instant in range(100)]
        self.assertIsNone(first_broken(moments))
        self.assertEqual(order(moments)[:3], [[0], [300], [1]])

    def test_lists_are_not_modified(self):
        moments = [Moment(EUROPE, 9), Moment(UTC, 5)]
        before = list(moments)
        first_broken(moments)
        groups = order(moments)
        self.assertTrue(len(moments) == 2 and all(one is other for one, other in zip(moments, before)))
        groups[0].clear()
        self.assertEqual(order(moments), [[1], [0]])


def turn_within(told, low, high):
    """The least pair of instants from low on and before high without an advance of the clock, by trying all."""
    readings = [reading for begin, end, offset in told.spans(low, high)
                for reading in range(begin + offset, end + offset)]
    least, found = None, None
    for index in range(len(readings) - 1, -1, -1):
        if least is not None and least <= readings[index]:
            found = index
        least = readings[index] if least is None else min(least, readings[index])
    if found is None:
        return None
    other = next(index for index in range(found + 1, len(readings)) if readings[index] <= readings[found])
    return low + found, low + other


class TurnTest(unittest.TestCase):

    def check(self, told, instant, high):
        pair = turn_within(told, instant, high)
        self.assertEqual(first_turn(told.zone(), instant), pair, (vars(told), instant))
        return pair

    def test_all_pairs(self):
        told = Told(0, [(40, 30), (50, 5), (60, -10), (90, -12), (91, 20)])
        readings = [instant + told.offset_at(instant) for instant in range(150)]
        for instant in range(110):
            pairs = [(one, other) for one in range(instant, 150) for other in range(one + 1, 150)
                     if readings[one] >= readings[other]]
            self.assertEqual(first_turn(told.zone(), instant), min(pairs, default=None))

    def test_several_changes_within_hours(self):
        found = []
        for told in (OFTEN, *hourly(20, 25)):
            marks = [0, *told.marks(0, 10 ** 6)]
            for instant in sorted({max(0, mark + near) for mark in marks for near in (-5000, -600, -1, 0, 1, 300)}):
                found.append(self.check(told, instant, marks[-1] + 2))
        self.assertGreater(found.count(None), 10)

    def test_rules(self):
        compared = 0
        for told in TOLDS[6::2] + some_tolds(3, 26):
            for mark in told.marks(0, told.settled() + 400 * DAY)[:2]:
                for instant in {max(mark - 20000, 0), max(mark - 1, 0), mark}:
                    found, pair = first_turn(told.zone(), instant), turn_within(told, instant, instant + 200000)
                    # A turn takes less than two days, so a pair that begins soon lies in this stretch.
                    if pair is not None and pair[0] < instant + 25000:
                        self.assertEqual(found, pair)
                        compared += 1
                    else:
                        self.assertTrue(found is None or found[0] >= instant + 25000)
        self.assertGreater(compared, 15)

    def test_around_a_change_back(self):
        zone = Zone(7200, [(10000, 3600)])
        self.assertEqual(first_turn(zone, 0), (6400, 10000))
        self.assertEqual(first_turn(zone, 6399), (6400, 10000))
        self.assertEqual(first_turn(zone, 6400), (6400, 10000))
        self.assertEqual(first_turn(zone, 6401), (6401, 10000))
        self.assertEqual(first_turn(zone, 9999), (9999, 10000))
        for instant in (10000, 10001, 10 ** 29):
            self.assertIsNone(first_turn(zone, instant))

    def test_turn_over_two_changes(self):
        # The clock jumps ahead and falls back again; first it shows again what it showed before.
        zone = Zone(0, [(100, 50), (110, -20)])
        self.assertEqual(first_turn(zone, 0), (90, 110))
        self.assertEqual(first_turn(zone, 100), (100, 110))
        # Readings shown long after, in two steps back.
        zone = Zone(0, [(100, -5), (103, -60), (200, 0)])
        self.assertEqual(first_turn(zone, 0), (43, 103))
        self.assertEqual(first_turn(zone, 95), (95, 100))

    def test_never_back(self):
        for zone in (Zone(0), Zone(-5), Zone(0, [(5, 1), (6, 2), (10 ** 29, 86399)]), Zone(-7, [(9, -7), (11, 0)])):
            for instant in (0, 5, 6, 10 ** 20):
                self.assertIsNone(first_turn(zone, instant))

    def test_far_away(self):
        since = CYCLE * 10 ** 18
        told = Told(0, rule=SUMMER, since=since)
        self.assertEqual(first_turn(told.zone(), 0), (since + AUTUMN - 3600, since + AUTUMN))
        self.assertEqual(first_turn(told.zone(), since + AUTUMN - 1), (since + AUTUMN - 1, since + AUTUMN))
        later = first_turn(told.zone(), since + AUTUMN)
        self.assertEqual(later, (since + AUTUMN - 3600 + 364 * DAY, since + AUTUMN + 364 * DAY))
        for rule in (SUMMER, SOUTH, HASTY):
            near, far = Zone(9, rule=rule, since=0), Zone(9, [(5, 3)], rule=rule, since=10 ** 7)
            for instant in (10 ** 7 + 2 * DAY, 15 * 10 ** 6, 26 * 10 ** 6, 32 * 10 ** 6):
                one, other = first_turn(near, instant)
                self.assertEqual(first_turn(far, since + instant), (since + one, since + other))
        self.assertEqual(first_turn(Zone(0, [(10, -86399)], rule=SUMMER, since=since), 0), (0, 10))
        self.assertEqual(first_turn(Zone(8000, rule=SUMMER, since=since), 0), (since - 4400, since))

    def test_wrong_instants(self):
        for zone in (UTC, EUROPE):
            for value in [*NO_NUMBERS, -1, -10 ** 29]:
                with self.assertRaises(BadNumber) as caught:
                    first_turn(zone, value)
                self.assertIs(caught.exception.value, value)
        self.assertEqual(first_turn(instant=0, zone=EUROPE), (AUTUMN - 3600, AUTUMN))


if __name__ == "__main__":
    unittest.main()
