import itertools
import random
import unittest

from clockfolds.errors import BadLimit, BadLog, BadNumber
from clockfolds.logs import earliest, in_order, is_refutation, latest, possible, refutation
from clockfolds.readings import instants_of
from clockfolds.zones import Zone
from log_models import AUTUMN, BACK, EUROPE, JUMP, NINE, SPRING, UTC, assignments, some_limit, some_logs
from models import NO_LISTS, NO_NUMBERS

ENTRIES = [(EUROPE, AUTUMN), (EUROPE, AUTUMN - 1800), (EUROPE, AUTUMN - 900)]
NO_ENTRIES = [
    *NO_NUMBERS, 5, "ab", EUROPE, [EUROPE, 5], (EUROPE,), (EUROPE, 5, 5), (5, EUROPE), (5, 5), (None, 5), ("zone", 5),
    (EUROPE, True), (EUROPE, None), (EUROPE, "5"), (EUROPE, (5,)), ((EUROPE, 5),), {5: 5},
]
NO_LIMITS = [
    *NO_NUMBERS, 5, "abcd", [0, 1, 0, 0], (0, 1), (0, 1, 0), (0, 1, 0, 0, 0), (3, 0, 0, 0), (0, 3, 0, 0), (-1, 0, 0, 0),
    (0, -1, 0, 0), (None, 0, 0, 0), (0, None, 0, 0), (True, 0, 0, 0), (0, True, 0, 0), (False, 0, 0, 0), ("0", 0, 0, 0),
    (0, (1,), 0, 0), (0, 1, True, 0), (0, 1, 0, False), (0, 1, "0", 0), (0, 1, 0, "0"), (0, 1, [], 0), (0, 1, 0, ()),
    (0, 10 ** 30, 0, 0),
]

# Each of the functions of entries and limits.
FUNCTIONS = [earliest, latest, possible, refutation, lambda entries, limits: is_refutation(entries, limits, [])]


class AssignmentsTest(unittest.TestCase):

    def check(self, entries, limits):
        told = assignments(entries, limits)
        columns = [sorted(set(column)) for column in zip(*told)] or [[] for _ in entries]
        self.assertEqual(possible(entries, limits), columns, (entries, limits))
        if told:
            first, last = [column[0] for column in columns], [column[-1] for column in columns]
            self.assertIn(first, told)
            self.assertIn(last, told)
            self.assertEqual((earliest(entries, limits), latest(entries, limits)), (first, last))
        else:
            self.assertIsNone(earliest(entries, limits))
            self.assertIsNone(latest(entries, limits))
        return bool(told)

    def test_random_logs(self):
        found = [self.check(entries, limits) for entries, limits in some_logs(3000, 81)]
        self.assertGreater(min(found.count(True), found.count(False)), 600)

    def test_random_logs_of_one_clock_shown_often(self):
        source, found = random.Random(82), []
        for _ in range(150):
            entries = [(NINE, source.randrange(500, 600)) for _ in range(3)]
            limits = []
            for _ in range(source.randint(1, 4)):
                one, other, least = source.randrange(3), source.randrange(3), source.randint(-500, 400)
                limits.append((one, other, least, source.choice([None, least, least + 20, least + 150])))
            found.append(self.check(entries, limits))
        self.assertGreater(min(found.count(True), found.count(False)), 20)

    def test_instants_that_no_single_limit_excludes(self):
        # Each limit lets 1138 follow one of the instants of the first entry, but not the same one.
        entries, limits = [(BACK, 840), (NINE, 538)], [(0, 1, 1, None), (0, 1, None, 200)]
        self.check(entries, limits)
        self.assertEqual(possible(entries, limits), [[840, 1140], [938, 1038, 1238, 1338]])
        self.assertIn(1138, possible(entries, limits[:1])[1])
        self.assertIn(1138, possible(entries, limits[1:])[1])
        # Of each pair of these entries, more choices go together than of all three.
        entries = [(BACK, 750)] * 3
        self.assertEqual(instants_of(BACK, 750), [750, 1050])
        for limits in itertools.product([(0, 1, 300, 300), (0, 1, -300, 300), (1, 0, 0, 0)],
                                        [(1, 2, 0, 0), (1, 2, -300, -300), (1, 2, None, 0)],
                                        [(2, 0, 0, 0), (2, 0, -300, 0)]):
            self.check(entries, list(limits))

    def test_log_of_one_clock_in_order(self):
        # Quarters of an hour, as a clock shows them over the change back.
        readings = [AUTUMN + 900 * quarter for quarter in (-4, -3, -2, -1, 0, 1, -2, -1, 0, 1, 2)]
        entries = [(EUROPE, reading) for reading in readings]
        first = AUTUMN - 3600 - 7200
        for gap in (0, 1, 900):
            self.check(entries, in_order(entries, gap))
            self.assertEqual(earliest(entries, in_order(entries, gap)), [first + 900 * turn for turn in range(11)])
        self.assertIsNone(earliest(entries, in_order(entries, 901)))
        self.assertEqual(len(possible(entries, in_order(entries, -5400))[3]), 2)

    def test_example(self):
        limits = in_order(ENTRIES)
        instants = [26094600, 26096400, 26097300]
        self.assertEqual((earliest(ENTRIES, limits), latest(ENTRIES, limits)), (instants, instants))
        self.assertEqual(possible(ENTRIES, limits), [[instant] for instant in instants])
        self.assertEqual(possible(ENTRIES, []), [instants_of(zone, reading) for zone, reading in ENTRIES])
        self.assertEqual(earliest(ENTRIES, []), [26094600, 26092800, 26093700])
        self.assertEqual(latest(ENTRIES, []), [26098200, 26096400, 26097300])

    def test_several_clocks(self):
        entries = [(UTC, 26096400), (EUROPE, AUTUMN), (UTC, 26097000), (EUROPE, AUTUMN)]
        self.assertEqual(possible(entries, in_order(entries)), [[], [], [], []])
        self.assertEqual(possible(entries[:2], in_order(entries[:2])), [[26096400], [26098200]])
        self.assertEqual(possible(entries[1:3], in_order(entries[1:3])), [[26094600], [26097000]])
        self.assertEqual(latest(entries, [(1, 0, 0, None), (0, 3, 0, None)]), [26096400, 26094600, 26097000, 26098200])

    def test_skipped_readings(self):
        entries = [(UTC, 5), (EUROPE, SPRING), (EUROPE, AUTUMN)]
        for limits in ([], in_order(entries), [(0, 0, 0, 0)], [(0, 2, None, None)]):
            self.assertIsNone(earliest(entries, limits))
            self.assertIsNone(latest(entries, limits))
            self.assertEqual(possible(entries, limits), [[], [], []])
        self.assertEqual(possible([(JUMP, 600)], []), [[]])

    def test_limits_of_an_entry_with_itself(self):
        entries = [(BACK, 800), (UTC, 5)]
        for least, most in ((None, None), (0, 0), (-5, 5), (None, 0), (0, None), (-5, None), (None, 5)):
            self.assertEqual(possible(entries, [(0, 0, least, most)]), [[800, 1100], [5]])
        for least, most in ((1, None), (None, -1), (1, -1), (300, 300), (-300, -300), (1, 5), (5, 0)):
            self.assertEqual(possible(entries, [(0, 0, least, most)]), [[], []])
            self.assertIsNone(earliest(entries, [(1, 1, least, most)]))
            self.assertIsNone(latest(entries, [(1, 1, None, None), (1, 1, least, most)]))

    def test_limits_back_and_without_bounds(self):
        entries = [(BACK, 800), (BACK, 900)]
        self.assertEqual(possible(entries, [(1, 0, None, None)]), [[800, 1100], [900, 1200]])
        self.assertEqual(possible(entries, [(1, 0, 0, None)]), [[1100], [900]])
        self.assertEqual(possible(entries, [(1, 0, None, -200)]), [[800], [1200]])
        self.assertEqual(possible(entries, [(0, 1, 400, 400)]), [[800], [1200]])
        self.assertEqual(possible(entries, [(0, 1, 401, None)]), [[], []])
        self.assertEqual(possible(entries, [(0, 1, 5, 4)]), [[], []])

    def test_twelve_entries(self):
        entries = [(EUROPE, AUTUMN - 1800 + 300 * (index * 5 % 12)) for index in range(12)]
        for limits in ([], in_order(entries[:2]), in_order(entries)[::2], [(0, 11, 3600, None), (3, 4, -600, 600)]):
            self.check(entries, limits)
        entries = [(UTC, 100 * index) for index in range(12)]
        self.assertEqual(earliest(entries, in_order(entries, 100)), [100 * index for index in range(12)])
        self.assertIsNone(earliest(entries, in_order(entries, 101)))

    def test_tuples_for_lists(self):
        limits = in_order(ENTRIES)
        for function in FUNCTIONS[:4]:
            self.assertEqual(function(tuple(ENTRIES), tuple(limits)), function(ENTRIES, limits))
            self.assertEqual(function(limits=limits, entries=ENTRIES), function(ENTRIES, limits))
        self.assertEqual(in_order(tuple(ENTRIES)), limits)

    def test_arguments_are_not_modified(self):
        for limits in (in_order(ENTRIES), in_order(ENTRIES, 1801)):
            entries, before = list(ENTRIES), list(limits)
            for function in FUNCTIONS:
                function(entries, limits)
            self.assertEqual((entries, limits), (ENTRIES, before))
        found = possible(ENTRIES, [])
        found[0].clear()
        found.pop()
        self.assertEqual(possible(ENTRIES, [])[0], [26094600, 26098200])
        earliest(ENTRIES, []).clear()
        self.assertEqual(len(earliest(ENTRIES, [])), 3)


class OrderTest(unittest.TestCase):

    def test_gaps(self):
        self.assertEqual(in_order(ENTRIES), [(0, 1, 0, None), (1, 2, 0, None)])
        for gap in (-10 ** 29, -1, 0, 1, 1801):
            self.assertEqual(in_order(ENTRIES, gap), [(0, 1, gap, None), (1, 2, gap, None)])
            self.assertEqual(in_order(gap=gap, entries=ENTRIES), in_order(ENTRIES, gap))
        self.assertEqual(in_order(ENTRIES[:1], 5), [])
        self.assertEqual(len(in_order(ENTRIES * 4)), 11)
        self.assertIs(type(in_order(ENTRIES)), list)

    def test_assignments(self):
        self.assertEqual(earliest(ENTRIES, in_order(ENTRIES, -900)), [26094600, 26096400, 26097300])
        self.assertEqual(earliest(ENTRIES, in_order(ENTRIES, -1800)), [26094600, 26092800, 26093700])

    def test_wrong_values(self):
        for value in NO_LISTS:
            with self.assertRaises(BadLog) as caught:
                in_order(value, "x")
            self.assertEqual(caught.exception.index, 0)
        for value in NO_ENTRIES:
            with self.assertRaises(BadLog) as caught:
                in_order([*ENTRIES, value, 7], "x")
            self.assertEqual(caught.exception.index, 3)
        for entries in ([], (), ENTRIES * 5):
            with self.assertRaises(BadLog) as caught:
                in_order(entries, "x")
            self.assertEqual(caught.exception.index, 0)
        for value in NO_NUMBERS:
            for entries in (ENTRIES, ENTRIES[:1]):
                with self.assertRaises(BadNumber) as caught:
                    in_order(entries, value)
                self.assertIs(caught.exception.value, value)


class ErrorsTest(unittest.TestCase):

    def fails(self, error, index, entries, limits):
        for function in FUNCTIONS:
            with self.assertRaises(error) as caught:
                function(entries, limits)
            self.assertEqual((type(caught.exception), caught.exception.index), (error, index), (entries, limits))

    def test_no_list_of_entries(self):
        for value in [*NO_LISTS, EUROPE]:
            self.fails(BadLog, 0, value, "x")

    def test_wrong_entries(self):
        for value in NO_ENTRIES:
            self.fails(BadLog, 0, [value], 7)
            self.fails(BadLog, 2, [*ENTRIES[:2], value, 5], 7)
            self.fails(BadLog, 1, (ENTRIES[0], value), [7])
            # An entry is wrong, and there are too many.
            self.fails(BadLog, 14, [*ENTRIES * 4, *ENTRIES[:2], value], [7])
        self.fails(BadLog, 0, ENTRIES[0], [])

    def test_number_of_entries(self):
        for entries in ([], (), [*ENTRIES * 4, ENTRIES[0]], [(EUROPE, SPRING)] * 100):
            self.fails(BadLog, 0, entries, [])
            self.fails(BadLog, 0, entries, "x")
            self.fails(BadLog, 0, entries, [7])

    def test_no_list_of_limits(self):
        for value in NO_LISTS:
            self.fails(BadLimit, 0, ENTRIES, value)

    def test_wrong_limits(self):
        for value in NO_LIMITS:
            self.fails(BadLimit, 0, ENTRIES, [value])
            self.fails(BadLimit, 2, ENTRIES, ((0, 0, 1, 1), (1, 2, None, 0), value, 7))
            self.fails(BadLimit, 0, [(EUROPE, SPRING)] * 3, (value, (0, 1, 0, 0)))
        self.fails(BadLimit, 1, ENTRIES[:1], [(0, 0, None, None), (0, 1, None, None)])
        self.fails(BadLimit, 0, ENTRIES, (0, 1, 0, 0))

    def test_random_limits_are_right(self):
        source = random.Random(83)
        for _ in range(100):
            possible(ENTRIES, [some_limit(source, 3)])
        # Far numbers are numbers.
        self.assertEqual(possible([(Zone(0), 10 ** 29)], [(0, 0, -10 ** 29, 10 ** 29)]), [[10 ** 29]])


if __name__ == "__main__":
    unittest.main()
