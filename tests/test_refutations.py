import random
import unittest

from clockfolds.logs import earliest, in_order, is_refutation, possible, refutation
from clockfolds.readings import instants_of
from log_models import AUTUMN, BACK, EUROPE, NINE, SPRING, UTC, is_told_refutation, some_logs
from models import NO_LISTS, NO_NUMBERS

ENTRIES = [(EUROPE, AUTUMN), (EUROPE, AUTUMN - 1800), (EUROPE, AUTUMN - 900)]
LIMITS = in_order(ENTRIES, 1801)
STEPS = [(0, 26094600, 0), (0, 26098200, 0)]


class RefutationTest(unittest.TestCase):

    def test_example(self):
        self.assertEqual(refutation(ENTRIES, LIMITS), STEPS)
        self.assertIsNone(refutation(ENTRIES, in_order(ENTRIES)))
        self.assertIs(is_refutation(ENTRIES, LIMITS, STEPS), True)
        self.assertIs(is_refutation(steps=STEPS, limits=LIMITS, entries=ENTRIES), True)
        self.assertEqual(refutation(limits=LIMITS, entries=ENTRIES), STEPS)

    def test_none_exactly_if_there_is_an_assignment(self):
        found = []
        for entries, limits in some_logs(3000, 91):
            steps = refutation(entries, limits)
            self.assertIs(steps is None, earliest(entries, limits) is not None)
            if steps is not None:
                found.append(steps)
                self.assertTrue(is_told_refutation(entries, limits, steps), (entries, limits, steps))
                self.assertIs(is_refutation(entries, limits, steps), True)
                self.assertIs(is_refutation(entries, limits, tuple(steps)), True)
                self.assertTrue(all(type(step) is tuple for step in steps))
                self.assertEqual(refutation(tuple(entries), tuple(limits)), steps)
        self.assertGreater(len(found), 600)
        self.assertGreater(len([steps for steps in found if len(steps) > 3]), 100)

    def test_many_steps(self):
        # Each limit moves the others on by one turn of the clock, until there is none.
        entries = [(NINE, 550), (NINE, 560)]
        limits = [(0, 1, 11, None), (1, 0, -9, None)]
        self.assertEqual(possible(entries, limits[:1])[1], instants_of(NINE, 560)[1:])
        self.assertIsNone(refutation(entries, limits[:1]))
        self.assertIsNone(refutation(entries, limits[1:]))
        steps = refutation(entries, limits)
        self.assertGreater(len(steps), 8)
        self.assertTrue(is_told_refutation(entries, limits, steps))

    def test_entry_without_instants(self):
        for entries in ([(EUROPE, SPRING)], [(UTC, 5), (EUROPE, SPRING), (EUROPE, AUTUMN)]):
            for limits in ([], [(0, 0, None, None)], in_order(entries)):
                steps = refutation(entries, limits)
                self.assertTrue(is_refutation(entries, limits, steps))
                self.assertIs(is_refutation(entries, limits, []), True)
                self.assertIs(is_refutation(entries, limits, ()), True)
        # A step that excludes any instant of an entry beside one without instants.
        entries, limits = [(EUROPE, SPRING), (EUROPE, AUTUMN)], [(1, 0, None, None)]
        self.assertTrue(is_refutation(entries, limits, [(1, 26098200, 0)]))
        self.assertTrue(is_refutation(entries, limits, [(1, 26098200, 0), (1, 26094600, 0)]))
        self.assertFalse(is_refutation(entries, limits, [(1, 26098200, 0), (1, 26098200, 0)]))
        self.assertFalse(is_refutation(entries, limits, [(0, SPRING - 3600, 0)]))

    def test_results_are_new(self):
        refutation(ENTRIES, LIMITS).clear()
        self.assertEqual(refutation(ENTRIES, LIMITS), STEPS)


class JudgingTest(unittest.TestCase):

    def test_changed_steps(self):
        source, judged = random.Random(92), []
        for entries, limits in some_logs(1500, 93):
            steps = refutation(entries, limits) or []
            for _ in range(12):
                told = is_told_refutation(entries, limits, changed := self.changed(source, entries, limits, steps))
                self.assertIs(is_refutation(entries, limits, changed), told, (entries, limits, changed))
                judged.append(told)
        self.assertGreater(judged.count(True), 300)
        self.assertGreater(judged.count(False), 300)

    def changed(self, source, entries, limits, steps):
        """Steps left out, doubled, in another order, or of another entry, instant or limit."""
        steps = list(steps)
        at = source.randrange(len(steps)) if steps else 0
        way = source.randrange(6)
        if way == 0 and steps:
            del steps[at]
        elif way == 1 and steps:
            steps.insert(source.randint(0, len(steps)), steps[at])
        elif way == 2:
            source.shuffle(steps)
        elif way == 3 and steps:
            entry, instant, limit = steps[at]
            steps[at] = source.choice([(entry + 1, instant, limit), (entry, instant + 1, limit), (-1, instant, limit),
                                       (entry, instant, limit - 1), (entry, instant, len(limits)),
                                       (entry, instant, -1)])
        elif way == 4:
            pairs = [(entry, instant) for entry, (zone, reading) in enumerate(entries)
                     for instant in instants_of(zone, reading)]
            if pairs:
                steps.insert(at, (*source.choice(pairs), source.randrange(len(limits) or 1)))
        return steps

    def test_steps_after_the_end(self):
        # Each step is right; it does not matter that an entry has none left before.
        self.assertTrue(is_refutation(ENTRIES, LIMITS, [*STEPS, (1, 26092800, 0)]))
        self.assertTrue(is_refutation(ENTRIES, LIMITS, [*STEPS, (1, 26096400, 0), (2, 26093700, 1)]))
        self.assertTrue(is_refutation(ENTRIES, LIMITS, [*STEPS, (1, 26096400, 0), (1, 26092800, 0), (2, 26093700, 1)]))
        self.assertFalse(is_refutation(ENTRIES, LIMITS, [*STEPS, (1, 26092801, 0)]))
        self.assertFalse(is_refutation(ENTRIES, LIMITS, [*STEPS, STEPS[0]]))
        self.assertFalse(is_refutation(ENTRIES, LIMITS, [*STEPS, (0, 26094600, 1)]))
        self.assertFalse(is_refutation(ENTRIES, LIMITS, [*STEPS, 5]))

    def test_wrong_steps(self):
        for steps in ([], STEPS[:1], STEPS[1:], [STEPS[0], STEPS[0]], [(0, 26094600, 1), STEPS[1]],
                      [(1, 26094600, 0), STEPS[1]], [(0, 26094601, 0), STEPS[1]], [(0, 26094600, 2), STEPS[1]],
                      [(0, 26094600, -2), STEPS[1]], [(-3, 26094600, 0), STEPS[1]], [(3, 26094600, 0), STEPS[1]]):
            self.assertIs(is_refutation(ENTRIES, LIMITS, steps), False, steps)
        self.assertIs(is_refutation(ENTRIES, LIMITS, STEPS[::-1]), True)
        self.assertIs(is_refutation(ENTRIES, in_order(ENTRIES), STEPS), False)
        self.assertIs(is_refutation(ENTRIES, [], STEPS), False)
        self.assertIs(is_refutation(ENTRIES, [], []), False)

    def test_any_value(self):
        for value in [*NO_LISTS, "ab", {0: STEPS[0]}, STEPS[0], EUROPE]:
            self.assertIs(is_refutation(ENTRIES, LIMITS, value), False)
        for value in [*NO_NUMBERS, 5, "abc", list(STEPS[0]), STEPS[0][:2], (*STEPS[0], 0), (STEPS[0],), EUROPE,
                      (0, "26094600", 0), (0, None, 0), (None, 26094600, 0), (0, 26094600, None), ((0,), 26094600, 0),
                      (False, 26094600, 0), (0, 26094600, False), (0, 26094600, "0"), ([], [], []), {0: 0, 1: 1, 2: 2}]:
            for steps in ([value], [value, STEPS[1]], [*STEPS, value], (STEPS[0], value, STEPS[1])):
                self.assertIs(is_refutation(ENTRIES, LIMITS, steps), False, steps)

    def test_truths_for_numbers(self):
        # With instants 0 and 1, these would be right if truths were numbers.
        entries, limits = [(UTC, 0), (UTC, 1)], [(0, 1, 2, None), (1, 0, 0, None)]
        self.assertTrue(is_refutation(entries, limits, [(0, 0, 0)]))
        self.assertTrue(is_refutation(entries, limits, [(1, 1, 1)]))
        for step in ((False, 0, 0), (0, False, 0), (0, 0, False), (True, 1, 1), (1, True, 1), (1, 1, True)):
            self.assertIs(is_refutation(entries, limits, [step]), False)

    def test_limit_of_an_entry_with_itself(self):
        entries = [(BACK, 800), (UTC, 5)]
        self.assertTrue(is_refutation(entries, [(0, 0, 1, None)], [(0, 800, 0), (0, 1100, 0)]))
        self.assertTrue(is_refutation(entries, [(0, 0, None, -1)], [(0, 1100, 0), (0, 800, 0)]))
        self.assertFalse(is_refutation(entries, [(0, 0, 1, None)], [(0, 800, 0)]))
        # Both instants are 300 seconds apart, but each one is compared with itself only.
        self.assertTrue(is_refutation(entries, [(0, 0, 300, 300)], [(0, 800, 0), (0, 1100, 0)]))
        self.assertFalse(is_refutation(entries, [(0, 0, -300, 0)], [(0, 800, 0), (0, 1100, 0)]))
        self.assertFalse(is_refutation(entries, [(0, 0, 1, None)], [(1, 5, 0)]))

    def test_only_the_steps_count(self):
        # There is no assignment, and further steps would show it.
        entries, limits = [(BACK, 800), (UTC, 900)], [(0, 1, 0, None), (1, 0, 0, None)]
        steps = [(0, 1100, 0), (0, 800, 1)]
        self.assertIsNotNone(refutation(entries, limits))
        self.assertEqual([is_refutation(entries, limits, steps[:many]) for many in range(3)], [False, False, True])


if __name__ == "__main__":
    unittest.main()
