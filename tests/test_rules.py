import random
import unittest

from clockfolds.dates import kind_of, year_start
from clockfolds.errors import BadNumber, BadOrder, BadRow
from clockfolds.yearly import day_in
from clockfolds.zones import Zone, check_rule, rule_changes, rule_table
from models import NO_NUMBERS
from zone_models import CLOSE, DAY, ENDS, RULES, SOUTH, SUMMER, disorder, some_rows, some_rule, told_changes

KINDS = [(first, leap) for first in range(7) for leap in (False, True)]
SPRING, AUTUMN = SUMMER
NO_TUPLES = [True, False, None, 0, 7, "", "rule", "abcd", [], {}, {0: SPRING, 1: AUTUMN}]
YEARS = [2000, 2001, 2003, 2004, 2028, 2099, 2100, 2399, 2400, 2401, 10 ** 26 + 1, 4 * 10 ** 26, 10 ** 27 - 1]

NO_ROWS = [
    *NO_TUPLES, (), (1, 2, 3, 4), SPRING[:3], (*SPRING, 0), list(SPRING), "abcd",
    ([*SPRING[0]], 3600, "utc", 7200), (("last", 3, 7), 3600, "utc", 7200), ("last", 3600, "utc", 7200),
    (("last", 3, True), 3600, "utc", 7200), (None, 3600, "utc", 7200), (("date", 2, 29), 3600, "utc", 7200),
    (SPRING[0], -86401, "utc", 7200), (SPRING[0], 172801, "utc", 7200), (SPRING[0], True, "utc", 7200),
    (SPRING[0], None, "utc", 7200), (SPRING[0], "3600", "utc", 7200), (SPRING[0], [3600], "utc", 7200),
    (SPRING[0], 3600, "UTC", 7200), (SPRING[0], 3600, "", 7200), (SPRING[0], 3600, None, 7200),
    (SPRING[0], 3600, 0, 7200), (SPRING[0], 3600, ["utc"], 7200), (SPRING[0], 3600, {}, 7200),
    (SPRING[0], 3600, "utc", -86400), (SPRING[0], 3600, "utc", 86400), (SPRING[0], 3600, "wall", True),
    (SPRING[0], 3600, "wall", None), (SPRING[0], 3600, "wall", "7200"), (SPRING[0], 3600, "wall", (7200,)),
]


def day_rule(first, second, third, fourth):
    """A rule of two rows on numbered days of the year, in UTC."""
    return (("day", first), second, "utc", 0), (("day", third), fourth, "utc", 1)


class CheckTest(unittest.TestCase):

    def bad_row(self, rule, index):
        for question in (check_rule, rule_table, lambda rule: rule_changes(rule, "x"),
                         lambda rule: Zone(0, rule=rule, since="x")):
            with self.assertRaises(BadRow) as caught:
                question(rule)
            self.assertEqual(caught.exception.index, index, rule)

    def bad_order(self, rule, year, index):
        self.assertEqual(disorder(rule), (year, index))
        for question in (check_rule, rule_table, lambda rule: rule_changes(rule, "x"),
                         lambda rule: Zone(0, rule=rule, since="x")):
            with self.assertRaises(BadOrder) as caught:
                question(rule)
            self.assertEqual((caught.exception.year, caught.exception.index), (year, index), rule)

    def good(self, rule):
        self.assertIsNone(disorder(rule))
        self.assertIsNone(check_rule(rule))

    def test_good_rules(self):
        for rule in RULES:
            self.good(rule)
        self.assertIsNone(check_rule(rule=SUMMER))
        words = {row[0][0] for rule in RULES for row in rule}
        self.assertEqual(words, {"nth", "last", "from", "until", "date", "day"})
        self.assertEqual({len(rule) for rule in RULES}, {2, 3, 4})

    def test_no_tuples(self):
        for value in NO_TUPLES:
            if value is not None:
                self.bad_row(value, 0)
        for question in (check_rule, rule_table, lambda rule: rule_changes(rule, 2000)):
            self.assertRaises(BadRow, question, None)

    def test_wrong_lengths(self):
        self.bad_row((), 0)
        self.bad_row((SPRING,), 0)
        five = tuple((("date", month, 1), 0, "utc", month % 2 + month // 5) for month in range(1, 6))
        self.good(five[:4])
        self.bad_row(five, 0)
        self.bad_row(list(SUMMER), 0)

    def test_wrong_rows(self):
        for row in NO_ROWS:
            self.bad_row((row, AUTUMN), 0)
            self.bad_row((SPRING, row), 1)
            self.bad_row((SPRING, AUTUMN, SPRING, row), 3)
            self.bad_row((SPRING, AUTUMN, row, 7), 2)

    def test_wrong_rows_before_same_offsets(self):
        self.bad_row((SPRING, SPRING, None), 2)
        self.bad_row((SPRING, SPRING, SPRING, ()), 3)

    def test_same_offsets(self):
        rows = [(("date", month, 1), 0, "utc", 0) for month in (1, 4, 7, 10)]

        def with_offsets(*offsets):
            return tuple((*row[:3], offset) for row, offset in zip(rows, offsets))
        self.bad_row(with_offsets(5, 5), 0)
        self.bad_row(with_offsets(5, 6, 5), 0)
        self.bad_row(with_offsets(5, 5, 6), 1)
        self.bad_row(with_offsets(5, 6, 6), 2)
        self.bad_row(with_offsets(5, 6, 7, 7), 3)
        self.bad_row(with_offsets(5, 6, 6, 5), 0)
        self.bad_row(with_offsets(5, 6, 6, 6), 2)
        self.good(with_offsets(5, 6))
        self.good(with_offsets(5, 6, 7))
        self.good(with_offsets(5, 6, 5, 6))

    def test_same_offsets_before_order(self):
        self.bad_row((AUTUMN, SPRING, (("day", 0), 0, "utc", 7200)), 2)

    def test_example(self):
        self.bad_order(((("last", 3, 6), 0, "utc", 3600), (("date", 3, 28), 0, "utc", 0)), 2002, 1)

    def test_seconds_at_both_ends(self):
        self.good(day_rule(1, -86400, 362, 172800))
        self.good(day_rule(0, 172800, 3, -86400 + 1))
        self.bad_order(day_rule(0, 172800, 3, -86400), 2000, 1)
        self.bad_order(day_rule(0, -86400, 5, 0), 2000, 0)
        self.bad_order(day_rule(1, -86400, 363, 172800), 2001, 1)
        self.bad_order(day_rule(1, -86400, 364, 172800), 2000, 1)

    def test_beginning_and_end_of_the_year(self):
        self.good(day_rule(0, 0, 364, 86399))
        self.bad_order(day_rule(0, -1, 364, 86399), 2000, 0)
        self.bad_order(day_rule(0, 0, 364, 86400), 2001, 1)
        self.good(ENDS)
        late = (("date", 12, 31), 86400, "utc", -86399)
        self.bad_order((ENDS[0], late), 2000, 1)
        self.bad_order((ENDS[0], (("date", 6, 1), 0, "utc", 3), late), 2000, 2)
        self.bad_order((late, ENDS[0]), 2000, 0)

    def test_wall_seconds_at_the_ends_of_the_year(self):
        # The first row is told by the offset of the last one.
        east = (("day", 0), 7199, "wall", 7200), (("day", 200), 0, "wall", 3600)
        self.good((east[0], (*east[1][:3], 7199)))
        self.bad_order((east[0], (*east[1][:3], 7201)), 2000, 0)
        self.good(((("day", 0), 7199, "wall", 7200), (("day", 200), 0, "wall", 7199)))
        west = (("day", 9), 0, "utc", -3600), (("date", 12, 31), 82799, "wall", 0)
        self.good(west)
        self.bad_order((west[0], (("date", 12, 31), 82800, "wall", 0)), 2000, 1)
        self.good(((("day", 5), 0, "wall", 86399), (("day", 9), 0, "wall", -86399)))
        self.good(((("day", 0), 172800, "wall", 86399), (("day", 4), 0, "wall", -86399)))
        self.bad_order(((("day", 0), 172800, "wall", 86399), (("day", 3), 0, "wall", -86399)), 2000, 1)
        self.bad_order(((("day", 0), 86398, "wall", 0), (("day", 3), 0, "wall", 86399)), 2000, 0)
        self.good(((("day", 0), 86399, "wall", 0), (("day", 3), 0, "wall", 86399)))

    def test_just_in_order(self):
        self.good(CLOSE)
        self.bad_order((CLOSE[0], (("date", 3, 31), 0, "utc", 0)), 2002, 1)
        wall = (("last", 3, 6), 0, "utc", 3600), (("date", 3, 31), 3601, "wall", 0)
        self.good(wall)
        self.bad_order((wall[0], (("date", 3, 31), 3600, "wall", 0)), 2002, 1)

    def test_rare_years(self):
        # 29 February as a Sunday, and the last day of a leap year that begins on each weekday.
        for weekday in range(7):
            rule = (("last", 2, weekday), 86400, "utc", 1), (("day", 59), 1, "utc", 0)
            year = next(year for year in range(2000, 2400, 4)
                        if day_in(("last", 2, weekday), year) == year_start(year) + 59)
            self.bad_order(rule, year, 1)

    def check(self, rule):
        """Compare with going through the years, and return the first wrong one."""
        found = disorder(rule)
        if found is None:
            self.good(rule)
            return None
        self.bad_order(rule, *found)
        return found[0]

    def test_against_all_years(self):
        source = random.Random(41)
        years = {self.check(tuple(some_rows(source, source.randint(2, 4)))) for _ in range(100)}
        self.assertLessEqual({None, 2000}, years)

    def test_against_all_years_on_near_days(self):
        source = random.Random(43)
        years = []
        for _ in range(200):
            month, offsets = source.randint(2, 11), source.sample([0, 1, -3600, 7200], source.randint(2, 3))
            first, last, weekday = source.randint(20, 28), source.randint(22, 28), source.randint(0, 6)
            choices = [("last", month, source.randint(0, 6)), ("from", month, first, source.randint(0, 6)),
                       ("until", month, last, source.randint(0, 6)), ("date", month, 28), ("nth", month, 4, weekday)]
            named = sorted(source.sample(choices, len(offsets)), key=lambda yearly: day_in(yearly, 2000))
            years.append(self.check(tuple((yearly, source.choice([0, 3600]), source.choice(["utc", "wall"]), offset)
                                          for yearly, offset in zip(named, offsets))))
        self.assertGreater(len([year for year in years if year is not None and year > 2000]), 50)
        self.assertGreater(years.count(None), 10)
        self.assertGreater(len(set(years)), 6)


class ChangesTest(unittest.TestCase):

    def rules(self):
        source = random.Random(7)
        return RULES + [some_rule(source) for _ in range(20)]

    def test_rule_changes(self):
        for rule in self.rules():
            for year in YEARS:
                self.assertEqual(rule_changes(rule, year), told_changes(rule, year))
        self.assertEqual(rule_changes(year=2000, rule=SUMMER), [(7347600, 7200), (26096400, 3600)])

    def test_new_lists(self):
        found = rule_changes(SUMMER, 2024)
        found.clear()
        self.assertEqual(len(rule_changes(SUMMER, 2024)), 2)
        self.assertEqual([type(pair) for pair in rule_changes(SOUTH, 2001)], [tuple, tuple])

    def test_bad_years(self):
        for value in [*NO_NUMBERS, 1999, 0, -1, -10 ** 26]:
            with self.assertRaises(BadNumber) as caught:
                rule_changes(SUMMER, value)
            self.assertIs(caught.exception.value, value)

    def test_rule_table(self):
        for rule in self.rules():
            table = rule_table(rule)
            self.assertEqual(list(table), KINDS)
            self.assertTrue(all(type(leap) is bool for _, leap in table))
            for year in range(2000, 2030):
                begin = year_start(year) * DAY
                told = tuple((instant - begin, offset) for instant, offset in rule_changes(rule, year))
                self.assertEqual(table[kind_of(year)], told)
            table.clear()
            self.assertEqual(len(rule_table(rule=rule)), 14)


if __name__ == "__main__":
    unittest.main()
