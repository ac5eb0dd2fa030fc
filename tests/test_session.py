"""The examples of the document, as one session."""

import doctest
import unittest

SESSION = """
>>> from clockfolds.dates import date_of, day_of, kind_of, week_of, weekday
>>> (day_of(2000, 3, 1), date_of(-1), weekday(0))
(60, (1999, 12, 31), 5)
>>> (week_of(0), kind_of(2024))
((1999, 52, 6), (0, True))

>>> from clockfolds.daysets import DaySet
>>> odd = DaySet.every(2, 1)
>>> both = odd & DaySet.weekdays([0]) | DaySet.of([0, 5])
>>> (both.start, both.period, both.head, both.cycle)
(6, 14, [0, 5], [9])
>>> (both.how_many(0, 14 * 10 ** 9), both.nth(3), both.next_from(10), both.within(odd), both.first_beyond(odd))
(1000000002, 23, 23, False, 0)
>>> weeks = DaySet.weekdays([5]).each(2)
>>> (weeks.period, weeks.cycle, DaySet.weekdays([2]).following(weeks).cycle)
(14, [0], [4])

>>> from clockfolds.yearly import day_in, deciding_year, explaining, first_unlike_year
>>> [date_of(day_in(("last", 3, 6), year)) for year in (2024, 2025)]
[(2024, 3, 31), (2025, 3, 30)]
>>> (first_unlike_year(("last", 3, 6), ("from", 3, 25, 6), 2000), first_unlike_year(("nth", 2, 4, 0), ("last", 2, 0), 2025))
(None, 2044)
"""


class SessionTest(unittest.TestCase):

    def test_examples(self):
        session = doctest.DocTestParser().get_doctest(SESSION, {}, "session", None, 0)
        told = []
        result = doctest.DocTestRunner(verbose=False).run(session, out=told.append)
        self.assertEqual((result.failed, "".join(told)), (0, ""))
        self.assertEqual(result.attempted, 13)


if __name__ == "__main__":
    unittest.main()
