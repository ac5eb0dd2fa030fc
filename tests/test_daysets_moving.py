import math
import unittest

from clockfolds.daysets import DaySet
from clockfolds.errors import BadNumber
from models import NO_NUMBERS, canonical, form, made, small_shapes, some_shapes, truth, truths


def moved(shape, days):
    """The shape moved by a number of days."""
    head, cycle = shape
    if days >= 0:
        return [False] * days + head, cycle
    many = max(0, len(head) + days)
    told = [truth(head, cycle, day - days) for day in range(many + len(cycle))]
    return told[:many], told[many:]


def followed(one, other):
    """The shape of the days of one that follow a day of the other, walking day by day."""
    start = max(len(one[0]), len(other[0]))
    period = math.lcm(len(one[1]), len(other[1]))
    told = []
    waiting = False
    for day in range(start + 2 * period):
        waiting = waiting or truth(*other, day)
        told.append(waiting and truth(*one, day))
        waiting = waiting and not told[-1]
    # What waits comes to rest within the first period.
    return told[:start + period], told[start + period:]


def picked(shape, number, first):
    """The shape of each number-th day, walking day by day."""
    head, cycle = shape
    many = number * (first + 2) + 1
    turned = len(cycle) * number
    start = len(head) + len(cycle) * many
    told = []
    count = 0
    for day in range(start + turned):
        here = truth(head, cycle, day)
        told.append(here and count >= first and (count - first) % number == 0)
        count += here
    return told[:start], told[start:]


class ShiftedTest(unittest.TestCase):

    def test_small_shifts(self):
        for shape in small_shapes(3, 4) + some_shapes(60, 20, 20, 8):
            days = made(shape)
            before = form(days)
            for step in [*range(-12, 13), -25, -60, 40]:
                self.assertEqual(form(days.shifted(step)), canonical(*moved(shape, step)), (shape, step))
            self.assertEqual(form(days), before)

    def test_back_and_forth(self):
        for shape in some_shapes(40, 20, 20, 9):
            days = made(shape)
            for step in (0, 1, 7, 100):
                self.assertEqual(days.shifted(step).shifted(-step), days)
                self.assertEqual(days.shifted(-step).shifted(step), days - DaySet.span(0, step))

    def test_far_down(self):
        for head, cycle in some_shapes(40, 20, 20, 10):
            days = made((head, cycle))
            for step in (10 ** 24, 10 ** 24 + 1, 9 * 10 ** 24 + 12345):
                told = [truth(head, cycle, day + step) for day in range(len(cycle))]
                self.assertEqual(form(days.shifted(-step)), canonical([], told))
        self.assertEqual(form(DaySet.of([0, 10 ** 6 - 1]).shifted(-10 ** 24)), (0, 1, [], []))

    def test_by_name(self):
        self.assertEqual(DaySet.every(7).shifted(days=2), DaySet.every(7, 2))

    def test_bad_numbers(self):
        for value in NO_NUMBERS:
            for days in (DaySet.span(0), DaySet.of([])):
                with self.assertRaises(BadNumber) as caught:
                    days.shifted(value)
                self.assertIs(caught.exception.value, value)


class FollowingTest(unittest.TestCase):

    def check(self, one, other):
        left, right = made(one), made(other)
        before = (form(left), form(right))
        expected = canonical(*followed(one, other))
        self.assertEqual(form(left.following(right)), expected, (one, other))
        self.assertEqual((form(left), form(right)), before)

    def test_small_sets(self):
        shapes = small_shapes(2, 3)
        for one in shapes:
            for other in shapes:
                self.check(one, other)

    def test_sets(self):
        shapes = some_shapes(80, 30, 20, 11)
        for at, one in enumerate(shapes):
            for other in (shapes[at - 1], shapes[at - 9]):
                self.check(one, other)
                self.check(other, one)

    def test_itself_empty_and_full_sets(self):
        full, empty = DaySet.span(0), DaySet.of([])
        for shape in some_shapes(40, 20, 20, 12):
            days = made(shape)
            self.assertEqual(days.following(days), days)
            self.assertEqual(days.following(full), days)
            self.assertEqual(full.following(days), days)
            self.assertEqual(days.following(empty), empty)
            self.assertEqual(empty.following(days), empty)

    def test_finite_sets(self):
        days = DaySet.of([3, 5, 9])
        self.assertEqual(form(days.following(DaySet.of([4, 5]))), (6, 1, [5], []))
        self.assertEqual(form(days.following(DaySet.of([10]))), (0, 1, [], []))
        self.assertEqual(days.following(DaySet.every(100, 6)), DaySet.of([9]))
        self.assertEqual(DaySet.every(100, 50).following(days), DaySet.of([50]))
        self.assertEqual(DaySet.every(100, 50).following(other=DaySet.of([50, 51])), DaySet.of([50, 150]))

    def test_far_days(self):
        days, other = DaySet.every(35, 4), DaySet.every(10, 9)
        found = days.following(other)
        for day in list(other.days(0, 400)) + list(other.days(10 ** 27, 10 ** 27 + 400)):
            self.assertIn(days.next_from(day), found)
        for day in list(days.days(0, 400)) + list(days.days(10 ** 27, 10 ** 27 + 400)):
            before = days.last_to(day - 1)
            since = 0 if before is None else before + 1
            self.assertIs(day in found, other.how_many(since, day + 1) > 0)


class EachTest(unittest.TestCase):

    def check(self, shape, number, first):
        days = made(shape)
        before = form(days)
        expected = canonical(*picked(shape, number, first))
        self.assertEqual(form(days.each(number, first)), expected, (shape, number, first))
        self.assertEqual(form(days), before)

    def test_small_sets(self):
        for shape in small_shapes(2, 3):
            for number in range(1, 6):
                for first in range(5):
                    self.check(shape, number, first)

    def test_sets(self):
        for shape in some_shapes(40, 12, 8, 13):
            for number, first in [(1, 0), (2, 0), (3, 1), (4, 7), (7, 2), (11, 5)]:
                self.check(shape, number, first)

    def test_first_is_0_if_not_given(self):
        for shape in some_shapes(20, 12, 12, 14):
            days = made(shape)
            self.assertEqual(form(days.each(3)), form(days.each(3, 0)))
            self.assertEqual(form(days.each(first=0, number=3)), form(days.each(3)))
            self.assertEqual(days.each(1), days)

    def test_finite_sets(self):
        days = DaySet.of([2, 3, 5, 7, 11])
        self.assertEqual(form(days.each(2)), (12, 1, [2, 5, 11], []))
        self.assertEqual(form(days.each(2, 1)), (8, 1, [3, 7], []))
        self.assertEqual(form(days.each(10 ** 27, 4)), (12, 1, [11], []))
        for first in (5, 6, 10 ** 28):
            self.assertEqual(form(days.each(1, first)), (0, 1, [], []))
        self.assertEqual(form(DaySet.of([]).each(3, 2)), (0, 1, [], []))

    def test_number_above_the_days_of_a_period(self):
        weekend = ([], [True, True] + [False] * 5)
        self.assertEqual(form(DaySet.weekdays([5, 6]).each(5)), canonical(*picked(weekend, 5, 0)))
        self.assertEqual(form(DaySet.weekdays([5, 6]).each(5)), (0, 35, [], [0, 15]))
        days = DaySet.every(4, 2).each(1000, 3)
        self.assertEqual(form(days), canonical([False] * 14, [True] + [False] * 3999))
        for number in (0, 1, 10 ** 24):
            self.assertEqual(days.nth(number), 14 + 4000 * number)

    def test_numbers_are_those_of_nth(self):
        for shape in some_shapes(30, 20, 20, 15):
            days = made(shape)
            if days.is_finite:
                continue
            found = days.each(6, 4)
            for number in [*range(30), 10 ** 25, 10 ** 25 + 1]:
                self.assertEqual(found.nth(number), days.nth(4 + 6 * number))

    def test_bad_numbers(self):
        for days in (DaySet.span(0), DaySet.of([])):
            for value in [*NO_NUMBERS, 0, -1, -10 ** 28]:
                self.refused(value, days.each, value)
                self.refused(value, days.each, value, -1)
            for value in [*NO_NUMBERS, -1, -10 ** 28]:
                self.refused(value, days.each, 1, value)
                self.refused(value, days.each, number=2, first=value)

    def refused(self, value, question, *arguments, **named):
        with self.assertRaises(BadNumber) as caught:
            question(*arguments, **named)
        self.assertIs(caught.exception.value, value)


if __name__ == "__main__":
    unittest.main()
