import unittest

from clockfolds.dates import date_of, day_of
from clockfolds.errors import BadDate, BadNumber, BadWord
from clockfolds.moments import Moment, agrees
from clockfolds.readings import fold_at, instants_of, reading_at, resolved
from clockfolds.zones import Zone
from models import NO_NUMBERS
from zone_models import CYCLE, DAY, HASTY, OFTEN, SUMMER, TOLDS, WALLS, Told, hourly, some_tolds

EUROPE = Zone(3600, rule=SUMMER, since=0)
SAME = Zone(3600, [(7347600, 7200)], rule=WALLS, since=7347601)
OTHER = Zone(-18000)
SPRING, AUTUMN = 7347600, 26096400
NO_INSTANTS = [*NO_NUMBERS, -1, -10 ** 29]
NO_SECONDS = [*NO_NUMBERS, -1, 86400]


class MomentTest(unittest.TestCase):

    def check(self, zone, instant):
        moment = Moment(zone, instant)
        self.assertIs(moment.zone, zone)
        reading = instant + zone.offset_at(instant)
        told = (moment.instant, moment.offset, moment.reading, moment.day, moment.second, moment.date, moment.fold())
        self.assertEqual(told, (instant, zone.offset_at(instant), reading, reading // DAY, reading % DAY,
                                date_of(reading // DAY), fold_at(zone, instant)))

    def test_properties(self):
        for told in (OFTEN, *TOLDS, *hourly(5, 20), *some_tolds(5, 21)):
            zone = told.zone()
            for mark in [0, *told.marks(0, told.settled() + 366 * DAY)]:
                for instant in {max(mark - 1, 0), mark, mark + 1000}:
                    self.check(zone, instant)
        self.check(EUROPE, 10 ** 30 - 1)

    def test_readings_below_0(self):
        moment = Moment(zone=Zone(-1), instant=0)
        self.assertEqual((moment.offset, moment.reading, moment.day, moment.second, moment.date, moment.fold()),
                         (-1, -1, -1, 86399, (1999, 12, 31), 0))
        self.assertEqual(Moment(Zone(-86399), 0).second, 1)

    def test_folds(self):
        zone = OFTEN.zone()
        reading = next(reading for reading in range(1000) if len(instants_of(zone, reading)) == 5)
        self.assertEqual([Moment(zone, instant).fold() for instant in instants_of(zone, reading)], [0, 1, 2, 3, 4])

    def test_wrong_instants(self):
        for value in NO_INSTANTS:
            with self.assertRaises(BadNumber) as caught:
                Moment(EUROPE, value)
            self.assertIs(caught.exception.value, value)

    def test_not_modified(self):
        moment = Moment(EUROPE, 5)
        for name in ("zone", "instant", "offset", "reading", "day", "second", "date"):
            with self.assertRaises(AttributeError):
                setattr(moment, name, 1)

    def test_in_zone(self):
        moment = Moment(EUROPE, AUTUMN).in_zone(OTHER)
        self.assertIs(moment.zone, OTHER)
        self.assertEqual((moment.instant, moment.offset), (AUTUMN, -18000))
        self.assertEqual(moment.in_zone(zone=EUROPE).reading, AUTUMN + 3600)


class OperatorsTest(unittest.TestCase):

    def test_orders(self):
        instants = [0, 1, SPRING - 1, SPRING, AUTUMN - 1, AUTUMN, AUTUMN + 1, 10 ** 29]
        for one in instants:
            for other in instants:
                for zones in ((EUROPE, EUROPE), (EUROPE, OTHER), (OTHER, EUROPE), (EUROPE, SAME)):
                    first, second = Moment(zones[0], one), Moment(zones[1], other)
                    told = [first == second, first != second, first < second, first <= second, first > second,
                            first >= second]
                    self.assertEqual(told, [one == other, one != other, one < other, one <= other, one > other,
                                            one >= other])
                    self.assertEqual(first - second, one - other)

    def test_equal_nothing_else(self):
        for value in [*NO_NUMBERS, 5, EUROPE, object()]:
            self.assertFalse(Moment(EUROPE, 5) == value)
            self.assertTrue(Moment(EUROPE, 5) != value)

    def test_sums(self):
        for zone in (EUROPE, OFTEN.zone()):
            for instant in (0, 5, AUTUMN):
                for seconds in (0, 1, -1, 3600, -instant, -5, 10 ** 29):
                    for moment, low in ((lambda: Moment(zone, instant) + seconds, instant + seconds),
                                        (lambda: Moment(zone, instant) - -seconds, instant + seconds)):
                        if low >= 0:
                            self.assertEqual(moment().instant, low)
                            self.assertIs(moment().zone, zone)
                        else:
                            self.assertRaises(BadNumber, moment)

    def test_below_0(self):
        for question, value in ((lambda: Moment(EUROPE, 5) + -6, -6), (lambda: Moment(EUROPE, 5) - 6, 6)):
            with self.assertRaises(BadNumber) as caught:
                question()
            self.assertEqual(caught.exception.value, value)
        self.assertEqual((Moment(EUROPE, 5) - 5).instant, 0)

    def test_other_values(self):
        moment = Moment(EUROPE, 5)
        for value in [*NO_NUMBERS, EUROPE]:
            for question in (lambda: moment + value, lambda: moment - value):
                with self.assertRaises(BadNumber) as caught:
                    question()
                self.assertIs(caught.exception.value, value)
        other = Moment(OTHER, 3)
        with self.assertRaises(BadNumber) as caught:
            moment + other
        self.assertIs(caught.exception.value, other)
        self.assertEqual((moment - other, other - moment), (2, -2))
        self.assertEqual(moment.instant, 5)


class OfTest(unittest.TestCase):

    def test_against_resolved(self):
        told = Told(-18000, [(5 * DAY, 3600), (9 * DAY, -3600)], HASTY, 20 * DAY)
        for zone in (EUROPE, OTHER, told.zone()):
            for date in ((1999, 12, 31), (2000, 1, 1), (2000, 1, 6), (2000, 1, 10), (2000, 3, 26), (2000, 6, 1),
                         (2000, 6, 2), (2000, 10, 29), (10 ** 26, 2, 29)):
                for second in (0, 7200, 9000, 10800, 60000, 86399):
                    for fold in range(4):
                        for gap in (None, "before", "after"):
                            instant = resolved(zone, day_of(*date) * DAY + second, fold=fold, gap=gap)
                            moment = Moment.of(zone, *date, second, fold=fold, gap=gap)
                            if instant is None:
                                self.assertIsNone(moment)
                            else:
                                self.assertIs(type(moment), Moment)
                                self.assertIs(moment.zone, zone)
                                self.assertEqual(moment.instant, instant)

    def test_defaults_and_names(self):
        self.assertEqual(Moment.of(EUROPE, 2000, 1, 2).instant, DAY - 3600)
        self.assertEqual(Moment.of(EUROPE, 2000, 10, 29, 9000).instant, 26094600)
        self.assertIsNone(Moment.of(EUROPE, 2000, 3, 26, 9000))
        self.assertEqual(Moment.of(gap="after", second=9000, day=26, month=3, year=2000, zone=EUROPE, fold=0).instant,
                         7345800)
        with self.assertRaises(TypeError):
            Moment.of(EUROPE, 2000, 1, 2, 0, 1)
        self.assertIsNone(Moment.of(EUROPE, 2000, 1, 1, 3599))
        self.assertEqual(Moment.of(EUROPE, 2000, 1, 1, 3600).instant, 0)

    def test_errors_in_their_order(self):
        def raised(kind, *given, **named):
            with self.assertRaises(kind) as caught:
                Moment.of(EUROPE, *given, **named)
            return caught.exception.value
        for value in NO_NUMBERS:
            self.assertIs(raised(BadNumber, value, None, "x", -1, fold=-1, gap=0), value)
            self.assertIs(raised(BadNumber, 2000, value, "x", -1, fold=-1, gap=0), value)
            self.assertIs(raised(BadNumber, 2000, 13, value, -1, fold=-1, gap=0), value)
        self.assertEqual(raised(BadDate, 2001, 2, 29, -1, fold=-1, gap=0), (2001, 2, 29))
        for value in NO_SECONDS:
            self.assertIs(raised(BadNumber, 2000, 2, 29, value, fold=-1, gap=0), value)
        for value in [*NO_NUMBERS, -1]:
            self.assertIs(raised(BadNumber, 2000, 2, 29, 0, fold=value, gap=0), value)
        for value in (0, False, "", "Before", [], ("after",)):
            self.assertIs(raised(BadWord, 2000, 2, 29, 0, gap=value), value)


class MovedTest(unittest.TestCase):

    def test_against_resolved(self):
        for zone in (EUROPE, OFTEN.zone(), Told(0, rule=HASTY, since=0).zone()):
            for instant in (0, 1500, 3050, SPRING - 1, SPRING, 152 * DAY + 30000, AUTUMN, AUTUMN - 1):
                reading = reading_at(zone, instant)
                for days in (-1, 0, 1, 218, 146097 * 10 ** 20):
                    for seconds in (-DAY, -500, 0, 1, 3600):
                        for fold, gap in ((0, None), (1, "before"), (3, "after")):
                            wanted = resolved(zone, reading + days * DAY + seconds, fold=fold, gap=gap)
                            moment = Moment(zone, instant).moved(days=days, seconds=seconds, fold=fold, gap=gap)
                            self.assertEqual(None if moment is None else moment.instant, wanted)
                            self.assertTrue(moment is None or moment.zone is zone)

    def test_examples(self):
        early = Moment.of(EUROPE, 2000, 3, 25, 9000)
        self.assertIsNone(early.moved(days=1))
        self.assertEqual(early.moved(days=1, gap="before").reading, 85 * DAY + 12600)
        self.assertEqual(early.moved(days=1, gap="after").reading, 85 * DAY + 5400)
        self.assertEqual(early.moved(days=2) - early, 2 * DAY - 3600)
        self.assertEqual(early.moved().instant, early.instant)
        self.assertEqual(early.moved(days=218).fold(), 0)
        self.assertEqual(early.moved(days=218, fold=1).fold(), 1)
        late = Moment(EUROPE, AUTUMN)
        self.assertEqual((late.moved().instant, late.moved(fold=1).instant), (AUTUMN - 3600, AUTUMN))
        self.assertIsNone(Moment(EUROPE, 5).moved(seconds=-6, gap="before"))
        with self.assertRaises(TypeError):
            late.moved(1)

    def test_wrong_values(self):
        moment = Moment(EUROPE, 5)
        for value in [*NO_NUMBERS, -1]:
            with self.assertRaises(BadNumber) as caught:
                moment.moved(days=1, fold=value, gap=0)
            self.assertIs(caught.exception.value, value)
        for value in (0, True, "each", [], {}):
            with self.assertRaises(BadWord) as caught:
                moment.moved(seconds=1, gap=value)
            self.assertIs(caught.exception.value, value)


class AgreesTest(unittest.TestCase):

    def check(self, told, low, high, seconds):
        """Compare with the offsets of all instants, and the answers of moved with those near the ends."""
        found, zone = agrees(told.zone(), low, high, seconds), told.zone()
        same = [instant for begin, end, offset in told.spans(low, high)
                for first, last, later in told.spans(begin + seconds, end + seconds) if offset == later
                for instant in range(first - seconds, last - seconds)]
        self.assertEqual([instant for begin, end in found for instant in range(begin, end)], same)
        for one, other in zip(found, found[1:]):
            self.assertLess(one[1], other[0])
        near = {end + by for pair in found for end in pair for by in (-2, -1, 0, 1)}
        for instant in sorted({low, high - 1, *near}):
            if low <= instant < high:
                moment = Moment(zone, instant)
                folds = [moment.moved(seconds=seconds, fold=fold) for fold in range(6)]
                agreed = any(later is not None and later == moment + seconds for later in folds)
                self.assertIs(any(begin <= instant < end for begin, end in found), agreed)
        return len(found)

    def test_near_changes(self):
        many = 0
        for told in (OFTEN, *hourly(12, 22)):
            for seconds in (0, 1, 400, 600, 3000, 40000):
                many += self.check(told, 0, 60000, seconds)
        self.assertGreater(many, 100)

    def test_rules(self):
        for told in TOLDS[6:]:
            for mark in told.marks(0, told.settled() + 366 * DAY)[:3]:
                for seconds in (1, 3600, DAY):
                    self.check(told, max(mark - DAY - 5000, 0), mark + 5000, seconds)

    def test_examples(self):
        self.assertEqual(agrees(EUROPE, 0, SPRING + 100, 60), [(0, SPRING - 60), (SPRING, SPRING + 100)])
        self.assertEqual(agrees(EUROPE, 0, SPRING, AUTUMN - SPRING), [])
        # In the next year, the clock is turned 364 days after this spring.
        self.assertEqual(agrees(EUROPE, SPRING, AUTUMN, 200 * DAY),
                         [(SPRING, AUTUMN - 200 * DAY), (SPRING + 164 * DAY, AUTUMN)])
        self.assertEqual(agrees(EUROPE, 0, 10 * DAY, CYCLE * 10 ** 17), [(0, 10 * DAY)])
        self.assertEqual(agrees(OTHER, 5, 10 ** 29, 10 ** 29), [(5, 10 ** 29)])
        self.assertEqual(agrees(EUROPE, 5, 10 ** 6, 0), [(5, 10 ** 6)])

    def test_stretches_are_not_adjacent(self):
        # At 100 and 200, the offset changes both now and later, so that they agree on both sides.
        zone = Zone(0, [(100, 5), (200, 0), (300, 5), (400, 0)])
        self.assertEqual(agrees(zone, 0, 400, 200), [(0, 300)])
        self.assertEqual(agrees(zone, 50, 250, 200), [(50, 250)])

    def test_no_instants(self):
        for low, high in ((0, 0), (5, 5), (6, 5), (10 ** 29, 0)):
            self.assertEqual(agrees(EUROPE, low, high, 10), [])
        self.assertEqual(agrees(Zone(0, [(5, 6)]), 0, 5, 5), [])
        self.assertEqual(agrees(EUROPE, -5, 0, 10), [])
        self.assertEqual(agrees(EUROPE, -5, 7, 10), [(0, 7)])

    def test_no_numbers(self):
        for value in NO_NUMBERS:
            for question in (lambda: agrees(EUROPE, value, 5, 0), lambda: agrees(EUROPE, 0, value, 0),
                             lambda: agrees(EUROPE, 0, 5, value), lambda: Moment(EUROPE, 5).moved(days=value),
                             lambda: Moment(EUROPE, 5).moved(seconds=value)):
                with self.assertRaises(BadNumber) as caught:
                    question()
                self.assertIs(caught.exception.value, value)

    def test_by_name_and_new_lists(self):
        found = agrees(seconds=60, high=100, low=0, zone=EUROPE)
        self.assertEqual(found, [(0, 100)])
        self.assertIs(type(found[0]), tuple)
        found.clear()
        self.assertEqual(agrees(EUROPE, 0, 100, 60), [(0, 100)])


if __name__ == "__main__":
    unittest.main()
