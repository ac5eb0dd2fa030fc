import itertools
import random
import unittest

from clockfolds.daysets import DaySet
from clockfolds.errors import BadNumber, TooFew
from clockfolds.runs import Runs
from models import NO_NUMBERS
from run_models import ToldRuns, some_pairs, some_told_runs
from zone_models import DAY

ODD, EVEN, NONE = DaySet.every(2, 1), DaySet.every(2), DaySet.of([])
NO_SECONDS = [True, False, None, "", "5", (), (1,), -1, 86400, 10 ** 30, -10 ** 30]


def listed(runs, days=60):
    return list(runs.instants(0, days * DAY))


class MakingTest(unittest.TestCase):

    def test_parts(self):
        for parts in ({}, {5: ODD}, {0: EVEN, 86399: ODD}, {7: ODD, 3: EVEN, 5: DaySet.of([9])}):
            runs = Runs(parts)
            self.assertEqual(runs.parts, parts)
            self.assertEqual(list(runs.parts), sorted(parts))
            self.assertEqual(runs, Runs(parts=dict(reversed(list(parts.items())))))

    def test_empty_parts(self):
        runs = Runs({9: ODD, 3: NONE, 5: EVEN, 1: DaySet.span(7, 7)})
        self.assertEqual(runs.parts, {5: EVEN, 9: ODD})
        self.assertEqual(runs, Runs({5: EVEN, 9: ODD}))
        self.assertEqual(Runs({3: NONE}), Runs({}))
        self.assertEqual(Runs({3: NONE}).parts, {})

    def test_wrong_seconds(self):
        for value in NO_SECONDS:
            for parts in ({value: ODD}, {5: ODD, value: ODD}, {value: NONE, 5: ODD}):
                with self.assertRaises(BadNumber) as caught:
                    Runs(parts)
                self.assertIs(caught.exception.value, value)
        with self.assertRaises(BadNumber) as caught:
            Runs({86400: ODD, -1: ODD})
        self.assertIn(caught.exception.value, (86400, -1))

    def test_arguments_are_not_kept(self):
        parts = {5: ODD, 3: NONE}
        runs = Runs(parts)
        self.assertEqual(list(parts.items()), [(5, ODD), (3, NONE)])
        parts[6] = EVEN
        parts[5] = EVEN
        self.assertEqual(runs.parts, {5: ODD})
        runs.parts.clear()
        runs.parts[7] = ODD
        self.assertEqual(runs.parts, {5: ODD})
        self.assertIsNot(runs.parts, runs.parts)
        instants = [3, 90000, 3]
        once = Runs.once(instants)
        self.assertEqual(instants, [3, 90000, 3])
        instants.append(5)
        self.assertEqual(listed(once), [3, 90000])

    def test_once(self):
        self.assertEqual(Runs.once([]), Runs({}))
        self.assertEqual(Runs.once([90000]), Runs({3600: DaySet.of([1])}))
        for instants in ([5], [0], [86399, 86400], [7, 3, 7, 10 ** 6, 3], list(range(0, 10 ** 6, 7777))):
            for given in (instants, instants[::-1], tuple(instants + instants)):
                runs = Runs.once(given)
                self.assertEqual(listed(runs), sorted(set(instants)))
                self.assertTrue(all(days.is_finite for days in runs.parts.values()))
        self.assertEqual(Runs.once(instants=(5,)), Runs.once([5, 5]))

    def test_wrong_instants(self):
        for value in [*NO_NUMBERS, -1, -10 ** 29]:
            for instants in ([value], [5, value], (0, value, "x", -7), [value, value]):
                with self.assertRaises(BadNumber) as caught:
                    Runs.once(instants)
                self.assertIs(caught.exception.value, value)


class ComparingTest(unittest.TestCase):

    def test_equal_if_made_otherwise(self):
        every = Runs({second: EVEN | ODD for second in (5, 7)})
        self.assertEqual(every, Runs({5: EVEN, 7: ODD}) | Runs({5: ODD, 7: EVEN}))
        self.assertEqual(every, Runs({5: DaySet.span(0), 7: DaySet.pattern([], [True, True])}))
        self.assertEqual(every - Runs({7: DaySet.span(0)}), Runs({5: DaySet.span(0)}))
        self.assertEqual(Runs.once([5, 7]), Runs({7: DaySet.of([0]), 5: DaySet.of([0, 0])}))
        for runs in (Runs({5: EVEN}), Runs({7: EVEN | ODD, 5: EVEN}), Runs({5: EVEN | ODD}), Runs({})):
            self.assertNotEqual(every, runs)
            self.assertFalse(every == runs)

    def test_equal_exactly_if_the_instants_are(self):
        for one, other in some_pairs(300, 41):
            same = one.instants(0, 40) == other.instants(0, 40)
            self.assertIs(one.runs() == other.runs(), same)
            self.assertIs(one.runs() != other.runs(), not same)

    def test_equal_nothing_else(self):
        for runs in (Runs({}), Runs.once([5]), Runs({5: ODD})):
            for other in (None, 0, 5, "", [], [5], {}, {5: ODD}, ODD, NONE, runs.parts, object(), Runs):
                self.assertFalse(runs == other)
                self.assertFalse(other == runs)
                self.assertTrue(runs != other)

    def test_truth(self):
        for told, _ in some_pairs(60, 42):
            self.assertIs(bool(told.runs()), bool(told.instants(0, 12)))
        self.assertFalse(Runs({}))
        self.assertFalse(Runs({5: NONE}))
        self.assertFalse(Runs.once([]))
        self.assertTrue(Runs.once([0]))

    def test_membership(self):
        for told, _ in some_pairs(40, 43):
            runs = told.runs()
            for day in [*range(-2, 25), 10 ** 25, 10 ** 25 + 1]:
                for second in {*told.shapes, 0, 5, 86399}:
                    for near in (-1, 0, 1):
                        instant = day * DAY + second + near
                        self.assertIs(instant in runs, told.has(instant), instant)

    def test_membership_of_any_value(self):
        runs = Runs({0: DaySet.span(0), 1: DaySet.span(0)})
        self.assertTrue(0 in runs and 1 in runs and 86401 in runs and 10 ** 25 * DAY in runs)
        for value in [*NO_NUMBERS, -1, -DAY, 2, DAY + 2, 1.0, ODD, runs, [0], (0, 1), {0: 1}, object()]:
            self.assertIs(value in runs, False)

    def test_within(self):
        within = []
        for one, other in some_pairs(300, 44):
            told = set(one.instants(0, 40)) <= set(other.instants(0, 40))
            self.assertIs(one.runs().within(other.runs()), told)
            self.assertTrue((one.runs() & other.runs()).within(other=other.runs()))
            within.append(told)
        self.assertGreater(within.count(True), 20)
        self.assertGreater(within.count(False), 20)
        self.assertTrue(Runs({}).within(Runs({})))
        self.assertFalse(Runs({5: ODD}).within(Runs({6: ODD})))


class OperatorsTest(unittest.TestCase):

    def test_against_sets(self):
        for one, other in some_pairs(150, 45):
            runs, others = one.runs(), other.runs()
            here, there = set(one.instants(0, 40)), set(other.instants(0, 40))
            forms = [runs.parts, others.parts]
            for found, told in ((runs | others, here | there), (runs & others, here & there),
                                (runs - others, here - there), (runs ^ others, here ^ there)):
                self.assertIs(type(found), Runs)
                self.assertEqual(listed(found, 40), sorted(told))
                self.assertEqual(list(found.parts), sorted(found.parts))
                self.assertTrue(all(found.parts.values()))
            self.assertEqual([runs.parts, others.parts], forms)

    def test_laws(self):
        for one, other in some_pairs(100, 46):
            runs, others = one.runs(), other.runs()
            self.assertEqual(runs | others, others | runs)
            self.assertEqual(runs & others, others & runs)
            self.assertEqual(runs ^ others, (runs - others) | (others - runs))
            self.assertEqual((runs - others) | (runs & others), runs)
            self.assertEqual((runs | runs, runs & runs, runs - runs, runs ^ runs), (runs, runs, Runs({}), Runs({})))
            for found in (runs | Runs({}), Runs({}) | runs, runs - Runs({}), runs ^ Runs({}), Runs({}) ^ runs):
                self.assertEqual(found, runs)
            for found in (runs & Runs({}), Runs({}) & runs, Runs({}) - runs):
                self.assertEqual(found, Runs({}))

    def test_first_questions(self):
        for one, other in some_pairs(300, 47):
            runs, others = one.runs(), other.runs()
            here, there = set(one.instants(0, 40)), set(other.instants(0, 40))
            self.assertEqual(runs.first_beyond(others), min(here - there, default=None))
            self.assertEqual(others.first_beyond(other=runs), min(there - here, default=None))
            self.assertEqual(runs.first_unlike(others), min(here ^ there, default=None))
            self.assertEqual(others.first_unlike(other=runs), min(here ^ there, default=None))
            self.assertEqual(runs.first_meeting(others), min(here & there, default=None))
            self.assertEqual(others.first_meeting(other=runs), min(here & there, default=None))

    def test_first_questions_late(self):
        runs, late = Runs({5: DaySet.every(1000)}), Runs({5: DaySet.every(1000) - DaySet.of([123000])})
        self.assertEqual((runs.first_beyond(late), late.first_beyond(runs)), (123000 * DAY + 5, None))
        self.assertEqual((runs.first_unlike(late), runs.first_meeting(late)), (123000 * DAY + 5, 5))
        self.assertEqual(Runs({5: DaySet.every(997)}).first_meeting(Runs({5: DaySet.every(991, 1)})),
                         5 + DAY * next(day for day in range(0, 10 ** 6, 997) if day % 991 == 1))

    def test_once_far_away(self):
        far = 10 ** 25 * DAY + 5
        daily, once = Runs({5: DaySet.span(0), 7: ODD}), Runs.once([5, far, far + 1])
        self.assertEqual((once.first_beyond(daily), daily.first_beyond(once)), (far + 1, DAY + 5))
        self.assertEqual((once.first_unlike(daily), once.first_meeting(daily)), (DAY + 5, 5))
        self.assertEqual(listed(once & daily, 10 ** 25 + 1), [5, far])
        self.assertEqual(once - daily, Runs.once([far + 1]))
        self.assertEqual(once ^ Runs.once([far]), Runs.once([5, far + 1]))
        self.assertEqual((once.first_unlike(Runs.once([5, far])), once.last_to(10 ** 30 - 1)), (far + 1, far + 1))
        self.assertFalse(once.within(daily))
        self.assertTrue(Runs.once([far]).within(daily))


class ShiftedTest(unittest.TestCase):

    def test_against_instants(self):
        source = random.Random(48)
        for told, _ in some_pairs(60, 49):
            runs = told.runs()
            for seconds in (0, 1, -1, 43200, -43200, DAY, -DAY, 86399, -86399, 5 * DAY + 7, -5 * DAY - 7,
                            source.randint(-10 ** 6, 10 ** 6), -40 * DAY):
                moved = [instant + seconds for instant in told.instants(0, 60)]
                found = runs.shifted(seconds)
                self.assertEqual(listed(found, 20), [instant for instant in moved if 0 <= instant < 20 * DAY])
                self.assertEqual(list(found.parts), sorted(found.parts))
                if seconds >= 0:
                    self.assertEqual(found.shifted(-seconds), runs)
            self.assertEqual(runs, told.runs())

    def test_over_the_ends_of_days(self):
        runs = Runs({0: EVEN, 86399: ODD})
        self.assertEqual(runs.shifted(1).parts, {0: DaySet.every(2, 2), 1: EVEN})
        self.assertEqual(runs.shifted(-1).parts, {86398: ODD, 86399: ODD})
        self.assertEqual(runs.shifted(seconds=-86400).parts, {0: ODD, 86399: EVEN})
        self.assertEqual(Runs.once([5]).shifted(-5), Runs.once([0]))
        self.assertEqual(Runs.once([5]).shifted(-6), Runs({}))

    def test_far(self):
        runs = Runs({5: DaySet.weekdays([0])})
        self.assertEqual(runs.shifted(-7 * DAY * 10 ** 24), runs)
        self.assertEqual(runs.shifted(7 * DAY * 10 ** 5).next_from(0), runs.nth(10 ** 5))

    def test_wrong_numbers(self):
        for value in NO_NUMBERS:
            with self.assertRaises(BadNumber) as caught:
                Runs({5: ODD}).shifted(value)
            self.assertIs(caught.exception.value, value)


class QuestionsTest(unittest.TestCase):

    def check_window(self, told, runs, low_day, high_day):
        """Compare with all instants from the day low_day on and before high_day."""
        instants = told.instants(low_day, high_day)
        low, high = low_day * DAY, high_day * DAY
        before = told.many_before(low_day)
        self.assertEqual(list(runs.instants(low, high)), instants)
        self.assertEqual(runs.how_many(low, high), len(instants))
        self.assertEqual(runs.how_many(0, low), before)
        for index, instant in enumerate(instants):
            self.assertEqual(runs.nth(before + index), instant)
        marks = sorted({low, high - 1, *[instant + near for instant in instants for near in (-1, 0, 1)]})
        for mark in [mark for mark in marks if low <= mark < high]:
            later = [instant for instant in instants if instant >= mark]
            earlier = [instant for instant in instants if instant <= mark]
            if later:
                self.assertEqual(runs.next_from(mark), later[0])
            if earlier:
                self.assertEqual(runs.last_to(mark), earlier[-1])
            self.assertEqual(runs.how_many(low, mark), len([instant for instant in instants if instant < mark]))
            self.assertEqual(runs.how_many(mark, high), len(later))
            self.assertEqual(list(runs.instants(mark, high)), later)
            self.assertEqual(list(runs.instants(low, mark + 1)), earlier)

    def test_against_instants(self):
        source = random.Random(50)
        for _ in range(25):
            told = some_told_runs(source)
            for low_day in (0, 3, 10 ** 6 + 1, 10 ** 25, 10 ** 25 + 7):
                self.check_window(told, told.runs(), low_day, low_day + 9)

    def test_none_there(self):
        finite = Runs({5: DaySet.of([1, 3]), 9: DaySet.of([3])})
        self.assertEqual([finite.next_from(low) for low in (-10 ** 29, 0, DAY + 5, DAY + 6, 3 * DAY + 9, 3 * DAY + 10)],
                         [DAY + 5, DAY + 5, DAY + 5, 3 * DAY + 5, 3 * DAY + 9, None])
        self.assertEqual([finite.last_to(high) for high in (-5, 0, DAY + 4, DAY + 5, 3 * DAY + 8, 10 ** 29)],
                         [None, None, None, DAY + 5, 3 * DAY + 5, 3 * DAY + 9])
        empty = Runs({})
        self.assertEqual((empty.next_from(0), empty.last_to(10 ** 29), empty.how_many(0, 10 ** 29)), (None, None, 0))
        self.assertEqual((empty.first_beyond(finite), empty.first_unlike(empty), empty.first_meeting(finite)),
                         (None, None, None))
        self.assertEqual(list(empty.instants(0, 10 ** 29)), [])
        self.assertEqual(list(finite.instants(0, 10 ** 29)), [DAY + 5, 3 * DAY + 5, 3 * DAY + 9])

    def test_low_above_high(self):
        runs = Runs({0: DaySet.span(0), 5: ODD})
        for low, high in ((5, 5), (6, 5), (DAY, 0), (10 ** 29, -10 ** 29), (0, -1), (-5, 0)):
            self.assertEqual(runs.how_many(low, high), 0)
            self.assertEqual(list(runs.instants(low, high)), [])
        self.assertEqual(runs.how_many(-10 ** 29, 6), 1)
        self.assertEqual(list(runs.instants(-10 ** 29, DAY + 6)), [0, DAY, DAY + 5])

    def test_too_few(self):
        for instants in ([], [0], [5, 9, DAY], list(range(0, 10 ** 6, 12345))):
            runs = Runs.once(instants)
            self.assertEqual([runs.nth(number) for number in range(len(instants))], instants)
            for number in (len(instants), len(instants) + 1, 10 ** 29):
                with self.assertRaises(TooFew) as caught:
                    runs.nth(number)
                self.assertEqual(caught.exception.number, len(instants))
        # One endless part is enough.
        runs = Runs({0: DaySet.of([3]), 5: DaySet.every(10, 7)})
        self.assertEqual([runs.nth(number) for number in range(3)], [3 * DAY, 7 * DAY + 5, 17 * DAY + 5])
        self.assertEqual(runs.nth(number=10 ** 24 + 1), (10 ** 25 + 7) * DAY + 5)

    def test_wrong_numbers(self):
        runs = Runs({5: ODD})
        for value in NO_NUMBERS:
            for question in (runs.nth, runs.next_from, runs.last_to, lambda value: runs.how_many(value, "x"),
                             lambda value: runs.how_many(0, value), lambda value: next(runs.instants(value, "x")),
                             lambda value: next(runs.instants(10 ** 29, value))):
                with self.assertRaises(BadNumber) as caught:
                    question(value)
                self.assertIs(caught.exception.value, value)
        for runs in (runs, Runs({})):
            for value in (-1, -10 ** 29):
                with self.assertRaises(BadNumber) as caught:
                    runs.nth(value)
                self.assertIs(caught.exception.value, value)

    def test_by_name(self):
        runs = Runs({5: ODD})
        self.assertEqual(runs.how_many(high=4 * DAY, low=0), 2)
        self.assertEqual((runs.nth(number=1), runs.next_from(instant=DAY + 6)), (3 * DAY + 5, 3 * DAY + 5))
        self.assertEqual(runs.last_to(instant=3 * DAY), DAY + 5)
        self.assertEqual(list(runs.instants(high=2 * DAY, low=0)), [DAY + 5])

    def test_instants_are_given_one_by_one(self):
        runs = Runs({0: DaySet.span(0), 7: DaySet.span(3)})
        found = runs.instants(0, 10 ** 29)
        self.assertEqual(list(itertools.islice(found, 6)), [0, DAY, 2 * DAY, 3 * DAY, 3 * DAY + 7, 4 * DAY])
        seldom = Runs({9: DaySet.every(10 ** 6)})
        self.assertEqual(list(itertools.islice(seldom.instants(10, 10 ** 29), 2)),
                         [10 ** 6 * DAY + 9, 2 * 10 ** 6 * DAY + 9])

    def test_long_stretches(self):
        told = ToldRuns({5: ([], [True]), 900: ([False] * 100, [True, False, False]), 86399: ([True] * 3, [False])})
        self.assertEqual(list(told.runs().instants(0, 500 * DAY)), told.instants(0, 500))
        self.assertEqual(list(told.runs().instants(7, 300 * DAY + 5)), [
            instant for instant in told.instants(0, 301) if 7 <= instant < 300 * DAY + 5])


if __name__ == "__main__":
    unittest.main()
