"""The examples of the document, as one session."""

import doctest
import pathlib
import unittest

from clockfolds.errors import BadOrder, BadText
from clockfolds.texts import moment_text, read_moment, read_zone
from clockfolds.zones import Zone, check_rule

SESSION = """
>>> from clockfolds.dates import date_of, day_of, kind_of, week_of, weekday
>>> (day_of(2000, 3, 1), date_of(-1), weekday(0))
(60, (1999, 12, 31), 5)
>>> (week_of(0), kind_of(2024))
((1999, 52, 6), (0, True))

>>> from clockfolds.daysets import DaySet
>>> odd = DaySet.every(2, 1)
>>> both = odd & DaySet.weekdays([0]) | DaySet.of([0, 5])
>>> (both.start, both.period, both.head, both.cycle)
(6, 14, [0, 5], [9])
>>> (both.how_many(0, 14 * 10 ** 9), both.nth(3), both.next_from(10), both.within(odd), both.first_beyond(odd))
(1000000002, 23, 23, False, 0)
>>> weeks = DaySet.weekdays([5]).each(2)
>>> (weeks.period, weeks.cycle, DaySet.weekdays([2]).following(weeks).cycle)
(14, [0], [4])

>>> from clockfolds.yearly import day_in, deciding_year, explaining, first_unlike_year
>>> [date_of(day_in(("last", 3, 6), year)) for year in (2024, 2025)]
[(2024, 3, 31), (2025, 3, 30)]
>>> (first_unlike_year(("last", 3, 6), ("from", 3, 25, 6), 2000), first_unlike_year(("nth", 2, 4, 0), ("last", 2, 0), 2025))
(None, 2044)

>>> from clockfolds.zones import Zone
>>> summer = ((("last", 3, 6), 3600, "utc", 7200), (("last", 10, 6), 3600, "utc", 3600))
>>> walls = ((("from", 3, 25, 6), 7200, "wall", 7200), (("from", 10, 25, 6), 10800, "wall", 3600))
>>> zone = Zone(3600, rule=summer, since=0)
>>> (zone == Zone(3600, rule=walls, since=0), zone.first_unlike(Zone.fixed(3600)), zone.next_change(0))
(True, 7347600, (7347600, 7200))

>>> from clockfolds.readings import instants_of, profile, repeated, resolved, skipped
>>> spring, autumn = 85 * 86400 + 9000, 302 * 86400 + 9000
>>> (instants_of(zone, spring), resolved(zone, spring, gap="before"), resolved(zone, spring, gap="after"))
([], 7349400, 7345800)
>>> instants_of(zone, autumn)
[26094600, 26098200]
>>> (skipped(zone, 9000).nth(1), repeated(zone, 9000).how_many(0, 146097), profile(zone, autumn - 9000, autumn))
(449, 400, [(26092800, 26100000, 1), (26100000, 26101800, 2)])

>>> from clockfolds.moments import Moment
>>> first = Moment.of(zone, 2000, 10, 29, 9000)
>>> (Moment.of(zone, 2000, 10, 29, 9000, fold=1) - first, first.offset, first.moved(days=1).date)
(3600, 7200, (2000, 10, 30))

>>> from clockfolds.comparing import first_broken, first_turn, mixed
>>> early, late, other = Moment(zone, 26096399), Moment(zone, 26096400), Moment(Zone.fixed(0), 26096400)
>>> (mixed(early, late), mixed(late, other), first_broken([early, late, other]), first_turn(zone, 0))
(1, 0, (0, 2, 1), (26092800, 26096400))

>>> from clockfolds.runs import runs_of
>>> here = runs_of(zone, DaySet.weekdays([0]), 9 * 3600)
>>> there = runs_of(Zone.fixed(7200), DaySet.weekdays([0]), 9 * 3600)
>>> (here == there, here.first_unlike(there), there.first_meeting(here), here.how_many(0, 146097 * 86400))
(False, 198000, 7455600, 20871)

>>> from clockfolds.logs import earliest, in_order, latest, refutation
>>> entries = [(zone, autumn), (zone, autumn - 1800), (zone, autumn - 900)]
>>> (earliest(entries, in_order(entries)), latest(entries, in_order(entries)))
([26094600, 26096400, 26097300], [26094600, 26096400, 26097300])
>>> refutation(entries, in_order(entries, 1801))
[(0, 26094600, 0), (0, 26098200, 0)]
"""


README = pathlib.Path(__file__).parent.parent / "README.md"


class SessionTest(unittest.TestCase):

    def run_session(self, text):
        """How many examples of a session there are; all of them hold."""
        session = doctest.DocTestParser().get_doctest(text, {}, "session", None, 0)
        told = []
        result = doctest.DocTestRunner(verbose=False).run(session, out=told.append)
        self.assertEqual((result.failed, "".join(told)), (0, ""))
        return result.attempted

    def test_examples(self):
        self.assertEqual(self.run_session(SESSION), 37)

    def test_examples_of_the_readme(self):
        self.assertGreater(self.run_session(README.read_text().split("```")[1]), 30)

    def test_examples_between_the_words(self):
        summer = ((("last", 3, 6), 3600, "utc", 7200), (("last", 10, 6), 3600, "utc", 3600))
        zone = Zone(3600, rule=summer, since=0)
        with self.assertRaises(BadOrder) as caught:
            check_rule(((("last", 3, 6), 0, "utc", 3600), (("date", 3, 28), 0, "utc", 0)))
        self.assertEqual((caught.exception.year, caught.exception.index), (2002, 1))
        with self.assertRaises(BadText) as caught:
            read_zone("offset 0\nsince 1\n")
        self.assertEqual(caught.exception.line, 2)
        text = "2000-03-26T03:30:00+02:00"
        self.assertEqual(moment_text(read_moment(zone, text)), text)


if __name__ == "__main__":
    unittest.main()
