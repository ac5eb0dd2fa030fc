import math
import unittest

from clockfolds.daysets import DaySet
from models import canonical, form, made, small_shapes, some_shapes, truth

SIGNS = {
    "|": (lambda one, other: one | other, lambda one, other: one or other),
    "&": (lambda one, other: one & other, lambda one, other: one and other),
    "-": (lambda one, other: one - other, lambda one, other: one and not other),
    "^": (lambda one, other: one ^ other, lambda one, other: one != other),
}


def joined(one, other, rule):
    """The shape of what a rule makes of two shapes."""
    start = max(len(one[0]), len(other[0]))
    period = math.lcm(len(one[1]), len(other[1]))
    told = [rule(truth(*one, day), truth(*other, day)) for day in range(start + period)]
    return told[:start], told[start:]


def first_day(shape):
    """The least day of a shape, or None."""
    told = shape[0] + shape[1]
    return told.index(True) if True in told else None


class OperatorsTest(unittest.TestCase):

    def check(self, one, other, sets):
        left, right = sets
        before = (form(left), form(right))
        for sign, (operator, rule) in SIGNS.items():
            expected = joined(one, other, rule)
            self.assertEqual(form(operator(left, right)), canonical(*expected), (sign, one, other))
            if sign == "-":
                self.assertIs(left.within(right), first_day(expected) is None)
                self.assertEqual(left.first_beyond(right), first_day(expected))
            if sign == "^":
                self.assertEqual(left.first_unlike(right), first_day(expected))
                self.assertIs(left == right, first_day(expected) is None)
                self.assertIs(left != right, first_day(expected) is not None)
        self.assertEqual((form(left), form(right)), before)

    def test_small_sets(self):
        shapes = small_shapes(2, 3)
        sets = [made(shape) for shape in shapes]
        for one, left in zip(shapes, sets):
            for other, right in zip(shapes, sets):
                self.check(one, other, (left, right))

    def test_sets(self):
        shapes = some_shapes(60, 30, 24, 2)
        for at, one in enumerate(shapes):
            for other in (shapes[at - 1], shapes[at - 7], one):
                self.check(one, other, (made(one), made(other)))
                self.check(other, one, (made(other), made(one)))

    def test_with_finite_empty_and_full_sets(self):
        some = [(([False] * 5), [True]), ([], [False]), ([], [True]), ([True, False, True], [False])]
        for one in some + some_shapes(30, 20, 20, 3):
            for other in some:
                self.check(one, other, (made(one), made(other)))
                self.check(other, one, (made(other), made(one)))

    def test_other_makers(self):
        week = ([], [(day + 5) % 7 in (0, 3) for day in range(7)])
        third = ([False] * 4, [True, False, False])
        days = ([True, False, False, True], [False])
        cases = [
            (week, DaySet.weekdays([3, 0, 0])), (third, DaySet.every(3, 4)), (days, DaySet.of([3, 0])),
            (([False] * 9, [True]), DaySet.span(9)), (([False] * 9 + [True] * 4, [False]), DaySet.span(9, 13)),
        ]
        for one, left in cases:
            for other, right in cases:
                self.check(one, other, (left, right))

    def test_complement(self):
        for head, cycle in small_shapes(3, 5) + some_shapes(100, 50, 50, 4):
            days = made((head, cycle))
            before = form(days)
            inverse = ~days
            expected = ([not told for told in head], [not told for told in cycle])
            self.assertEqual(form(inverse), canonical(*expected))
            self.assertEqual(form(~inverse), before)
            self.assertEqual(form(days), before)
            self.assertEqual(form(days | inverse), (0, 1, [], [0]))
            self.assertEqual(form(days & inverse), (0, 1, [], []))

    def test_itself(self):
        for shape in some_shapes(50, 30, 30, 5):
            days = made(shape)
            self.assertEqual(days | days, days)
            self.assertEqual(days & days, days)
            self.assertEqual(form(days - days), (0, 1, [], []))
            self.assertEqual(form(days ^ days), (0, 1, [], []))
            self.assertIs(days == days, True)
            self.assertIs(days.within(days), True)
            self.assertIsNone(days.first_beyond(days))
            self.assertIsNone(days.first_unlike(days))

    def test_finite_sets_of_far_days(self):
        far = 10 ** 25
        finite, weeks = DaySet.of([2, 9, 10, far, far + 3]), DaySet.weekdays([0]) | DaySet.of([10])
        kept = [day for day in (2, 9, 10, far, far + 3) if day == 10 or day % 7 == 2]
        self.assertEqual(finite & weeks, DaySet.of(kept))
        self.assertEqual(weeks & finite, DaySet.of(kept))
        self.assertEqual(finite - weeks, DaySet.of(sorted({2, 9, 10, far, far + 3} - set(kept))))
        self.assertEqual(form(finite & weeks), (kept[-1] + 1, 1, kept, []))
        self.assertEqual((weeks.first_beyond(finite), finite.first_beyond(weeks)), (16, (finite - weeks).nth(0)))
        self.assertEqual((weeks.first_unlike(finite), finite.first_unlike(weeks)), (16, 16))
        self.assertFalse(weeks.within(finite))
        self.assertTrue(DaySet.of(kept).within(weeks))
        self.assertEqual((finite | DaySet.of([far + 5])) ^ finite, DaySet.of([far + 5]))
        self.assertEqual(finite & DaySet.span(10), DaySet.of([10, far, far + 3]))
        self.assertEqual(finite.first_unlike(DaySet.of([2, 9, 10, far])), far + 3)

    def test_by_name(self):
        odd = DaySet.every(2, 1)
        full = DaySet.span(0)
        self.assertIs(odd.within(other=full), True)
        self.assertIs(full.within(other=odd), False)
        self.assertEqual(full.first_beyond(other=odd), 0)
        self.assertEqual(odd.first_unlike(other=full), 0)


if __name__ == "__main__":
    unittest.main()
