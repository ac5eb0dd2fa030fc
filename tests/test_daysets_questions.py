import unittest

from clockfolds.daysets import DaySet
from clockfolds.errors import BadNumber, TooFew
from models import NO_NUMBERS, made, small_shapes, some_shapes, truth, truths


def listed(shape, many):
    """The days of a shape before the day many."""
    return [day for day, told in enumerate(truths(*shape, many)) if told]


class QuestionsTest(unittest.TestCase):

    def check(self, shape):
        days = made(shape)
        end = len(shape[0]) + 4 * len(shape[1])
        told = listed(shape, end)
        # An infinite set has a day in each period, so one period more holds all neighbours.
        more = listed(shape, end + len(shape[1]) + 1)
        for low in range(-3, end + 1):
            before = [day for day in more if day <= low]
            behind = [day for day in more if day >= low]
            self.assertEqual(days.last_to(low), before[-1] if before else None)
            self.assertEqual(days.next_from(low), behind[0] if behind else None)
            for high in range(-3, end + 1):
                between = [day for day in told if low <= day < high]
                self.assertEqual(days.how_many(low, high), len(between))
        for low, high in [(-3, end), (0, end), (2, end - 1), (end // 2, end), (end, 0), (5, 5), (-9, -2)]:
            self.assertEqual(list(days.days(low, high)), [day for day in told if low <= day < high])
        for number, day in enumerate(told):
            self.assertEqual(days.nth(number), day)
        if days.is_finite:
            self.too_few(days, len(told))

    def too_few(self, days, many):
        for number in (many, many + 1, 10 ** 28):
            with self.assertRaises(TooFew) as caught:
                days.nth(number)
            self.assertEqual(caught.exception.number, many)

    def test_small_sets(self):
        for shape in small_shapes(3, 4):
            self.check(shape)

    def test_sets(self):
        for shape in some_shapes(40, 12, 12, 6):
            self.check(shape)

    def test_far_days(self):
        for shape in some_shapes(60, 30, 30, 7):
            days = made(shape)
            head, cycle = shape
            some = cycle.count(True)
            for turns in (10 ** 26, 10 ** 27 // 7):
                far = len(head) + turns * len(cycle)
                self.assertEqual(days.how_many(0, far), head.count(True) + turns * some)
                self.assertEqual(days.how_many(-10 ** 28, far), head.count(True) + turns * some)
                near = [day for day in range(far, far + 2 * len(cycle)) if truth(head, cycle, day)]
                self.assertEqual(list(days.days(far, far + 2 * len(cycle))), near)
                if not near:
                    self.assertIsNone(days.next_from(far))
                    continue
                number = head.count(True) + turns * some
                self.assertEqual([days.nth(number + at) for at in range(len(near))], near)
                self.assertEqual([days.next_from(day) for day in near], near)
                self.assertEqual([days.last_to(day) for day in near], near)
                self.assertEqual(days.next_from(far), near[0])
                self.assertEqual(days.last_to(far + 2 * len(cycle) - 1), near[-1])

    def test_no_neighbour(self):
        for days in (DaySet.of([]), DaySet.of([5]), DaySet.every(3, 5)):
            for day in (-10 ** 28, -1, 0, 4):
                self.assertIsNone(days.last_to(day))
        for days in (DaySet.of([]), DaySet.of([5]), DaySet.span(2, 6)):
            for day in (6, 10 ** 28):
                self.assertIsNone(days.next_from(day))
            self.assertEqual(days.last_to(10 ** 28), 5 if days else None)

    def test_turned_stretches(self):
        for days in (DaySet.span(0), DaySet.every(3), DaySet.of([1, 2])):
            for low, high in [(0, 0), (5, 4), (10 ** 27, 3), (2, -2), (-1, -10 ** 27)]:
                self.assertEqual(days.how_many(low, high), 0)
                self.assertEqual(list(days.days(low, high)), [])

    def test_days_goes_step_by_step(self):
        found = DaySet.every(5, 3).days(0, 10 ** 28)
        self.assertEqual([next(found) for _ in range(3)], [3, 8, 13])

    def test_bad_numbers(self):
        for days in (DaySet.span(0), DaySet.of([]), DaySet.of([0, 1])):
            for value in NO_NUMBERS:
                self.refused(value, days.nth, value)
                self.refused(value, days.next_from, value)
                self.refused(value, days.last_to, value)
                for question in (days.how_many, lambda low, high: next(days.days(low, high))):
                    self.refused(value, question, value, 3)
                    self.refused(value, question, value, "later")
                    self.refused(value, question, 3, value)
            for value in (-1, -10 ** 28):
                self.refused(value, days.nth, value)

    def refused(self, value, question, *arguments):
        with self.assertRaises(BadNumber) as caught:
            question(*arguments)
        self.assertIs(caught.exception.value, value)

    def test_by_name(self):
        days = DaySet.every(3, 1)
        self.assertEqual(days.how_many(high=8, low=1), 3)
        self.assertEqual(days.nth(number=2), 7)
        self.assertEqual(days.next_from(day=2), 4)
        self.assertEqual(days.last_to(day=3), 1)
        self.assertEqual(list(days.days(high=8, low=2)), [4, 7])


if __name__ == "__main__":
    unittest.main()
