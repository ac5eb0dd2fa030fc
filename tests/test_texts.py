import datetime
import random
import unittest

from clockfolds.dates import day_of
from clockfolds.errors import BadNumber, BadText, BadYearly
from clockfolds.moments import Moment
from clockfolds.readings import instants_of
from clockfolds.texts import (
    date_text, moment_text, offset_text, read_date, read_moment, read_yearly, yearly_text)
from clockfolds.yearly import all_yearly
from clockfolds.zones import Zone
from models import NO_NUMBERS, NO_TEXTS, ODD_LETTERS
from zone_models import DAY, HASTY, OFTEN, SUMMER, some_tolds

EUROPE = Zone(3600, rule=SUMMER, since=0)
BASE = datetime.datetime(2000, 1, 1)


def spoiled(text):
    """Texts near a right one: without a character, with one more, and with another one."""
    for at in range(len(text) + 1):
        for letter in [*ODD_LETTERS, " ", "\n", "-", "+", ":", "0", "T", "a", ""]:
            yield text[:at] + letter + text[at:]
            yield text[:at] + letter + text[at + 1:]
    yield text * 2


class TextTest(unittest.TestCase):

    def refuses(self, read, text):
        with self.assertRaises(BadText) as caught:
            read(text)
        self.assertEqual((type(caught.exception), caught.exception.line), (BadText, 0), repr(text))

    def refuses_what_is_not_written(self, read, write, text):
        """Each text near a right one is refused, or it is what is written for what is read."""
        refused = 0
        for near in spoiled(text):
            try:
                self.assertEqual(write(read(near)), near)
            except BadText as error:
                self.assertEqual(error.line, 0)
                refused += 1
        self.assertGreater(refused, 20 * len(text))

    def test_no_texts(self):
        for value in NO_TEXTS:
            for read in (read_date, read_yearly, lambda text: read_moment(EUROPE, text)):
                self.refuses(read, value)


class DateTest(TextTest):

    def test_examples(self):
        for year, month, day, text in (
            (2000, 1, 1, "2000-01-01"), (1999, 12, 31, "1999-12-31"), (2024, 2, 29, "2024-02-29"),
            (1, 1, 1, "0001-01-01"),
            (0, 2, 29, "0000-02-29"), (-1, 12, 31, "-0001-12-31"), (-4, 2, 29, "-0004-02-29"),
            (999, 10, 9, "0999-10-09"),
            (9999, 12, 31, "9999-12-31"), (10000, 1, 1, "10000-01-01"), (-9999, 1, 1, "-9999-01-01"),
            (-10000, 1, 1, "-10000-01-01"), (123456789, 5, 6, "123456789-05-06"),
        ):
            number = day_of(year, month, day)
            self.assertEqual(date_text(number), text)
            self.assertEqual(read_date(text), number)
        self.assertEqual(date_text(day=0), "2000-01-01")
        self.assertEqual(read_date(text="2000-01-02"), 1)

    def test_against_the_standard_library(self):
        for day in random.Random(101).sample(range(-730000, 2920000), 3000):
            text = (BASE + datetime.timedelta(days=day)).date().isoformat()
            self.assertEqual((date_text(day), read_date(text)), (text, day))

    def test_far_away(self):
        for digits in range(4, 31):
            for sign in ("", "-"):
                for year in (10 ** (digits - 1), 10 ** digits - 1,
                             123456789012345678901234567890 // 10 ** (30 - digits)):
                    text = f"{sign}{year}-02-28"
                    self.assertEqual(read_date(text), day_of(int(sign + str(year)), 2, 28))
                    self.assertEqual(date_text(read_date(text)), text)
        source = random.Random(102)
        for _ in range(500):
            day = source.randint(-10 ** source.randint(1, 30), 10 ** source.randint(1, 30))
            self.assertEqual(read_date(date_text(day)), day)

    def test_digits_of_the_year(self):
        for text in ("999-01-01", "-999-01-01", "00-01-01", "-1-01-01", "-01-01", "01-01", "02000-01-01",
                     "-02000-01-01",
                     "00000-01-01", "000001-01-01", "-0000-01-01", "-00000-01-01", "+2000-01-01", "--2000-01-01",
                     "1" * 31 + "-01-01", "-" + "1" * 31 + "-01-01", "0" * 30 + "-01-01", "0" * 27 + "2000-01-01",
                     "1" * 5000 + "-01-01", "2_000-01-01", " 2000-01-01", "2000-01-01 ", "20 00-01-01"):
            self.refuses(read_date, text)

    def test_no_dates(self):
        for text in ("", "-", "--", "2000", "2000-", "2000-01", "2000-01-", "2000-00-01", "2000-13-01", "2000-99-01",
                     "2000-01-00", "2000-01-32", "2000-04-31", "2000-02-30", "2001-02-29", "1900-02-29", "-0001-02-29",
                     "2000-1-01", "2000-01-1", "2000-001-01", "2000-01-001", "2000/01/01", "2000-01/01", "2000/01-01",
                     "20000101", "2000-01--1", "2000--1-01", "2000-+1-01", "2000-01-+1", "2000- 1-01", "2000-01-01\n",
                     "\n2000-01-01", "2000-01-01T00:00:00", "01-01-2000", "aaaa-bb-cc", "2000-01-01-01"):
            self.refuses(read_date, text)

    def test_near_dates(self):
        for text in ("2000-02-29", "-0400-12-31", "12345-10-10"):
            self.refuses_what_is_not_written(read_date, date_text, text)

    def test_no_days(self):
        for value in NO_NUMBERS:
            with self.assertRaises(BadNumber) as caught:
                date_text(value)
            self.assertIs(caught.exception.value, value)


class OffsetTest(TextTest):

    def test_examples(self):
        for offset, text in ((0, "+00:00"), (1, "+00:00:01"), (-1, "-00:00:01"), (60, "+00:01"), (-60, "-00:01"),
                             (3600, "+01:00"), (-3599, "-00:59:59"), (19800, "+05:30"), (-12600, "-03:30"),
                             (86340, "+23:59"), (86399, "+23:59:59"), (-86399, "-23:59:59"), (-86340, "-23:59")):
            self.assertEqual(offset_text(offset), text)
        self.assertEqual(offset_text(offset=7200), "+02:00")

    def test_all(self):
        for offset in range(-86399, 86400, 7):
            sign, rest = ("-" if offset < 0 else "+"), abs(offset)
            text = f"{sign}{rest // 3600:02}:{rest % 3600 // 60:02}"
            self.assertEqual(offset_text(offset), text if rest % 60 == 0 else f"{text}:{rest % 60:02}")

    def test_no_offsets(self):
        for value in [*NO_NUMBERS, 86400, -86400, 10 ** 30]:
            with self.assertRaises(BadNumber) as caught:
                offset_text(value)
            self.assertIs(caught.exception.value, value)


class MomentTest(TextTest):

    def check(self, zone, instant):
        moment = Moment(zone, instant)
        text = moment_text(moment)
        found = read_moment(zone, text)
        self.assertIs(type(found), Moment)
        self.assertEqual((found, found.instant), (moment, instant))
        self.assertIs(found.zone, zone)
        return text

    def test_examples(self):
        self.assertEqual(moment_text(Moment.of(EUROPE, 2000, 3, 26, 12600)), "2000-03-26T03:30:00+02:00")
        self.assertEqual(moment_text(moment=Moment(Zone(0), 0)), "2000-01-01T00:00:00+00:00")
        self.assertEqual(moment_text(Moment(Zone(-18005), 0)), "1999-12-31T18:59:55-05:00:05")
        self.assertEqual(moment_text(Moment(Zone(86399), 1)), "2000-01-02T00:00:00+23:59:59")
        found = read_moment(text="2000-03-26T03:30:00+02:00", zone=EUROPE)
        self.assertEqual(found.instant, 85 * DAY + 5400)

    def test_repeated_readings(self):
        first, second = (Moment.of(EUROPE, 2000, 10, 29, 9000, fold=fold) for fold in (0, 1))
        self.assertEqual(self.check(EUROPE, first.instant), "2000-10-29T02:30:00+02:00")
        self.assertEqual(self.check(EUROPE, second.instant), "2000-10-29T02:30:00+01:00")
        for reading in (50, 550, 1000, -100):
            texts = {self.check(OFTEN.zone(), instant) for instant in instants_of(OFTEN.zone(), reading)}
            self.assertEqual(len(texts), len(instants_of(OFTEN.zone(), reading)))
        zone = Zone(-30000, rule=HASTY, since=0)
        for instant in range(152 * DAY, 154 * DAY, 1777):
            self.check(zone, instant)

    def test_against_the_standard_library(self):
        source = random.Random(103)
        for told in some_tolds(60, 104):
            zone = told.zone()
            for instant in [0, *[mark + near for mark in told.marks(0, 10 ** 9)[:9] for near in (-1, 0, 1)],
                            source.randrange(10 ** 11), source.randrange(2 * 10 ** 11)]:
                offset = datetime.timedelta(seconds=told.offset_at(instant))
                shown = (BASE + datetime.timedelta(seconds=instant) + offset).replace(tzinfo=datetime.timezone(offset))
                self.assertEqual(self.check(zone, instant), shown.isoformat())

    def test_before_day_0(self):
        zone = Zone(-3600, [(1800, 0), (7200, -3600)])
        self.assertEqual(self.check(zone, 0), "1999-12-31T23:00:00-01:00")
        self.assertEqual(read_moment(zone, "1999-12-31T23:29:59-01:00").instant, 1799)
        for text in ("1999-12-31T22:59:59-01:00", "1999-12-31T23:30:00-01:00", "1999-12-31T23:59:59+00:00",
                     "-0001-12-31T23:00:00-01:00", "2000-01-01T00:00:00+00:01", "2000-01-01T00:00:00+00:00"):
            self.refuses(lambda text: read_moment(zone, text), text)
        self.refuses(lambda text: read_moment(Zone(3600), text), "2000-01-01T00:59:59+01:00")
        self.assertEqual(read_moment(Zone(3600), "2000-01-01T01:00:00+01:00").instant, 0)

    def test_far_away(self):
        for instant in (10 ** 12, 10 ** 20 + 12345, 10 ** 29 + 7, 10 ** 30 - 1):
            for zone in (EUROPE, Zone(-86399), Zone(5, [(10 ** 29, 7)])):
                self.check(zone, instant)
        self.refuses(lambda text: read_moment(EUROPE, text), "1" * 30 + "-01-01T00:00:00+02:00")

    def test_offsets_that_the_zone_does_not_have_there(self):
        for text in (
            # Skipped: with the offset before, with the one behind.
            "2000-03-26T02:30:00+01:00", "2000-03-26T02:30:00+02:00", "2000-03-26T02:30:00+00:00",
            # Plain, and repeated.
            "2000-03-26T03:30:00+01:00", "2000-01-01T12:00:00+02:00", "2000-01-01T12:00:00-01:00",
            "2000-07-01T12:00:00+01:00", "2000-10-29T02:30:00+00:00", "2000-10-29T02:30:00+01:30",
            "2000-10-29T01:59:59+01:00", "2000-10-29T03:00:00+02:00",
        ):
            self.refuses(lambda text: read_moment(EUROPE, text), text)
        self.assertEqual(read_moment(EUROPE, "2000-10-29T02:00:00+01:00").fold(), 1)

    def test_no_moments(self):
        date, zones = "2000-01-01", {0: Zone(0), 3600: Zone(3600), -3600: Zone(-3600), 5: Zone(5)}
        for text, zone in (
            ("", 0), ("T", 0), (date, 0), (date + "T", 0), (date + "T12:00:00", 0), (date + "T+00:00", 0),
            (date + "T12:00+00:00", 0), (date + "T12+00:00", 0), (date + "T12:00:00Z", 0),
            (date + " 12:00:00+00:00", 0),
            (date + "t12:00:00+00:00", 0), (date + "TT12:00:00+00:00", 0), (date + "T12:00:00-00:00", 0),
            (date + "T12:00:00+00:00:00", 0), (date + "T12:00:00-00:00:00", 0), (date + "T12:00:00 00:00", 0),
            (date + "T12:00:0000:00", 0), (date + "T12:00:00+0000", 0), (date + "T12:00:00+00", 0),
            (date + "T12:00:00+0", 0),
            (date + "T12:00:00+01:00:00", 3600), (date + "T12:00:00+1:00", 3600), (date + "T12:00:00+001:00", 3600),
            (date + "T12:00:00+00:60", 3600), (date + "T12:00:00+00:59:60", 3600), (date + "T12:00:00+01:0", 3600),
            (date + "T12:00:00+01:000", 3600), (date + "T12:00:00++1:00", 3600), (date + "T12:00:00+-1:00", -3600),
            (date + "T12:00:00+00:00:5", 5), (date + "T12:00:00+00:00:005", 5), (date + "T12:00:00+00:00:05:00", 5),
            (date + "T24:00:00+00:00", 0), (date + "T12:60:00+00:00", 0), (date + "T12:00:60+00:00", 0),
            (date + "T99:99:99+00:00", 0), (date + "T1:00:00+00:00", 0), (date + "T12:0:00+00:00", 0),
            (date + "T12:00:0+00:00", 0), (date + "T12:00:000+00:00", 0), (date + "T012:00:00+00:00", 0),
            (date + "T-1:00:00+00:00", 0), (date + "T12-00-00+00:00", 0), (date + "T12:00:00.0+00:00", 0),
            (date + "T12:00:00+00:00 ", 0), (" " + date + "T12:00:00+00:00", 0), (date + "T12:00:00+00:00\n", 0),
            ("2000-13-01T12:00:00+00:00", 0), ("2001-02-29T12:00:00+00:00", 0), ("02000-01-01T12:00:00+00:00", 0),
            ("12:00:00+00:00T" + date, 0), (date + "T12:00:00+24:00", 0), (date + "T12:00:00+99:99", 0),
        ):
            self.refuses(lambda text: read_moment(zones[zone], text), text)
        self.assertEqual(read_moment(zones[5], date + "T12:00:05+00:00:05").instant, 43200)
        self.assertEqual(read_moment(zones[-3600], date + "T12:00:00-01:00").instant, 46800)

    def test_near_moments(self):
        for zone, text in ((Zone(0), "2000-01-01T12:00:00+00:00"), (Zone(-5), "-0001-01-01T12:00:00-00:00:05"),
                           (EUROPE, "2000-10-29T02:30:00+01:00"), (Zone(-86399), "12345-12-31T23:59:59-23:59:59")):
            self.refuses_what_is_not_written(lambda near: read_moment(zone, near), moment_text, text)


class YearlyTest(TextTest):

    def test_examples(self):
        for yearly, text in ((("nth", 3, 2, 6), "nth 3 2 6"), (("last", 10, 0), "last 10 0"),
                             (("from", 3, 25, 6), "from 3 25 6"),
                             (("until", 12, 31, 1), "until 12 31 1"), (("date", 2, 28), "date 2 28"),
                             (("day", 364), "day 364")):
            self.assertEqual(yearly_text(yearly), text)
            self.assertEqual(read_yearly(text), yearly)
        self.assertEqual(yearly_text(yearly=("day", 0)), "day 0")
        self.assertEqual(read_yearly(text="day 0"), ("day", 0))

    def test_all(self):
        for yearly in all_yearly():
            text = yearly_text(yearly)
            self.assertEqual(text, " ".join(map(str, yearly)))
            found = read_yearly(text)
            self.assertEqual(found, yearly)
            self.assertTrue(all(type(part) is type(other) for part, other in zip(found, yearly)))

    def test_beyond_the_bounds(self):
        for text in ("nth 0 1 0", "nth 13 1 0", "nth 1 0 0", "nth 1 5 0", "nth 1 1 7", "nth 1 1 -1", "last 0 0",
                     "last 13 0",
                     "last 1 7", "from 12 26 0", "from 2 29 0", "from 1 0 0", "from 1 1 7", "until 1 6 0",
                     "until 2 29 0",
                     "until 12 32 0", "date 2 29", "date 4 31", "date 0 1", "date 1 0", "day -1", "day 365",
                     "day " + "1" * 30, "day -" + "1" * 30):
            self.refuses(read_yearly, text)

    def test_no_yearly_days(self):
        for text in ("", " ", "nth", "nth ", "nth 3 2", "nth 3 2 6 1", "last 3", "last 3 6 1", "from 3 25", "date 3",
                     "day", "day 1 2", "first 3 6", "Last 3 6", "last  3 6", "last 3  6", " last 3 6", "last 3 6 ",
                     "last\t3 6", "last 3 6\n", "last 3\n6", "last,3,6", "last three 6", "3 6 last", "last 3 6.0",
                     "'last' 3 6",
                     "('last', 3, 6)", "nthh 3 2 6", "5", "5 3 6", "None", "last 3 None"):
            self.refuses(read_yearly, text)

    def test_numbers(self):
        for number in ("00", "05", "-0", "+5", "5_0", "0x5", "5.", "-", "--5", "-05", "1" * 31, "0" * 31,
                       "0" * 30 + "5",
                       "1" * 10000, "\u0665", "\u00b2", "", " "):
            self.refuses(read_yearly, "day " + number)
        self.assertEqual([read_yearly("day " + number) for number in ("0", "5", "10")],
                         [("day", 0), ("day", 5), ("day", 10)])

    def test_near_yearly_days(self):
        for text in ("nth 3 2 6", "last 10 0", "from 3 25 6", "until 12 31 1", "date 2 28", "day 364"):
            self.refuses_what_is_not_written(read_yearly, yearly_text, text)

    def test_wrong_yearly_days(self):
        for value in [*NO_NUMBERS, 5, "last 3 6", ["last", 3, 6], ("last", 3), ("last", 3, 6, 1), ("last", 13, 6),
                      ("last", True, 6), ("last", "3", "6"), ("first", 3, 6), ("last", 3, 7), (3, 6), ((), 3, 6)]:
            with self.assertRaises(BadYearly) as caught:
                yearly_text(value)
            self.assertIs(caught.exception.value, value)


if __name__ == "__main__":
    unittest.main()
