"""Starts and periods up to 10 ** 6 days, in operands, results and common periods."""

import unittest

from clockfolds.daysets import DaySet
from models import form, truth

MOST = 10 ** 6
# The greatest prime below the bound.
PRIME = 999983


def digits(many, seed):
    """A list of so many truths that does not repeat itself."""
    state = seed
    told = []
    for _ in range(many):
        state = (state * 6364136223846793005 + 1442695040888963407) % 2 ** 64
        told.append(state >> 40 & 3 == 0)
    return told


class BoundsTest(unittest.TestCase):

    def sample(self, days, rule):
        """Compare membership at days near, at the bound, and far behind it."""
        for low in (0, MOST - 300, 2 * MOST - 300, 10 ** 20):
            for day in range(low, low + 600):
                self.assertIs(day in days, rule(day), day)

    def test_makers(self):
        self.assertEqual(form(DaySet.of([MOST - 1, 0])), (MOST, 1, [0, MOST - 1], []))
        self.assertEqual(form(DaySet.span(MOST)), (MOST, 1, [], [MOST]))
        self.assertEqual(form(DaySet.span(0, MOST)), (MOST, 1, list(range(MOST)), []))
        self.assertEqual(form(DaySet.every(MOST, MOST - 1)), (0, MOST, [], [MOST - 1]))
        self.assertEqual(form(DaySet.every(MOST, 2 * MOST - 1)), (MOST, MOST, [], [2 * MOST - 1]))

    def test_patterns(self):
        cycle = digits(MOST // 2, 3)
        whole = DaySet.pattern([], cycle)
        self.assertEqual((whole.start, whole.period), (0, MOST // 2))
        self.assertEqual(whole.cycle, [day for day, told in enumerate(cycle) if told])
        self.assertEqual(DaySet.pattern(cycle, cycle * 2), whole)
        self.assertEqual(DaySet.pattern([True] * MOST, [True]), DaySet.span(0))
        changed = DaySet.pattern([*cycle, not cycle[0], *cycle[1:]], cycle)
        self.assertEqual((changed.start, changed.period), (MOST // 2 + 1, MOST // 2))
        self.assertEqual(changed.first_unlike(whole), MOST // 2)

    def test_operators(self):
        one, other = DaySet.every(1000, 7), DaySet.every(999, 5)
        shared = one & other
        self.assertEqual((shared.period, len(shared.cycle)), (999000, 1))
        self.assertEqual((one | other).how_many(0, 999000), 999 + 1000 - 1)
        self.assertEqual((one ^ other).how_many(0, 999000), 999 + 1000 - 2)
        self.assertEqual((one - other).how_many(0, 999000), 999 - 1)
        self.assertEqual((one - other) | shared, one)
        self.assertEqual((one ^ other) ^ other, one)

    def test_dense_operators(self):
        one, other = ~DaySet.every(PRIME, 11), DaySet.span(MOST)
        either, first = one | other, one - other
        self.assertEqual((either.start, either.period), (12 + PRIME, 1))
        self.assertEqual(either, DaySet.span(0) - DaySet.of([11, 11 + PRIME]))
        self.assertEqual((first.start, first.period), (MOST, 1))
        self.assertEqual(len(first.head), MOST - 2)
        unlike = one ^ other
        self.sample(unlike, lambda day: day < MOST and day % PRIME != 11 or day >= MOST and day % PRIME == 11)
        self.assertEqual(unlike ^ one, other)
        self.assertEqual(~~one, one)
        self.assertEqual(one.first_beyond(other), 0)
        self.assertEqual(other.first_beyond(one), 11 + 2 * PRIME)
        self.assertEqual(one.first_unlike(DaySet.span(0)), 11)

    def test_shifted(self):
        days = DaySet.pattern([], digits(PRIME, 5))
        up = days.shifted(MOST)
        self.assertEqual(up.shifted(-MOST), days)
        self.assertEqual((up.period, up.how_many(0, MOST)), (PRIME, 0))
        self.assertEqual(days.shifted(PRIME), days - (days - days.shifted(PRIME)))
        self.assertEqual(days.shifted(-PRIME * 10 ** 18), days)
        self.sample(up, lambda day: day >= MOST and day - MOST in days)

    def test_following(self):
        days, other = DaySet.every(1000, 999), DaySet.every(999)
        found = days.following(other)
        # Each stretch of 1000 days holds a multiple of 999.
        self.assertEqual(found, days)
        late = DaySet.every(PRIME, PRIME - 1).following(DaySet.span(MOST))
        self.assertEqual(late, DaySet.every(PRIME, 2 * PRIME - 1))
        self.assertEqual(other.following(days).how_many(0, 999000), 998)
        self.assertEqual(other.following(days).how_many(999000, 2 * 999000), 999)
        self.sample(other.following(days), lambda day: day % 999 == 0 and self.reached(day))

    def reached(self, day):
        """Whether one of the 999 days up to this one ends in 999."""
        return any(earlier % 1000 == 999 for earlier in range(max(0, day - 998), day + 1))

    def test_each(self):
        self.assertEqual(DaySet.span(0).each(MOST, MOST - 1), DaySet.every(MOST, MOST - 1))
        self.assertEqual(DaySet.span(MOST).each(MOST), DaySet.every(MOST, MOST))
        cycle = digits(MOST // 10, 7)
        days = DaySet.pattern([], cycle)
        many = cycle.count(True)
        found = days.each(10, 3)
        self.assertEqual(found.period * 10 % days.period, 0)
        for number in (0, 1, many, 10 ** 18):
            self.assertEqual(found.nth(number), days.nth(3 + 10 * number))
        self.assertEqual(days.each(many, 0).period, days.period)

    def test_questions(self):
        head, cycle = digits(MOST, 8), digits(PRIME, 9)
        days = DaySet.pattern(head, cycle)
        self.sample(days, lambda day: truth(head, cycle, day))
        early, some = head.count(True), cycle.count(True)
        self.assertEqual(days.how_many(0, MOST + PRIME * 10 ** 20), early + some * 10 ** 20)
        self.assertEqual(days.nth(early + some * 10 ** 20), MOST + PRIME * 10 ** 20 + cycle.index(True))


if __name__ == "__main__":
    unittest.main()
