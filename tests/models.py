"""What the tests compare with: day sets as plain lists of truths, and values of all kinds."""

import random

from clockfolds.daysets import DaySet

# Values of which none is a number.
NO_NUMBERS = [True, False, None, "", "1", [], [1], (), (1,), {}, {1: 1}]

# Values of which none is a list.
NO_LISTS = [True, False, None, 0, 5, -1, "", "01", {}, {0: 1}]

# Values of which none is a string.
NO_TEXTS = [True, False, None, 0, 5, -1, [], ["2000-01-01"], (), ("nth", 3, 2, 6), {}, {"a": 1}, b"2000-01-01",
            object()]

# Characters that no text has; some of them look like those of texts.
ODD_LETTERS = ["\t", "\r", "\x00", "\x7f", "%", "\u00e9", "\u00b2", "\u0665", "\uff15", "\u2212", "\u00a0",
               "\U0001d7d3", "\ud800"]


def truth(head, cycle, day):
    """Whether head, then cycle for ever, says that a day from 0 on is in the set."""
    if day < len(head):
        return head[day]
    return cycle[(day - len(head)) % len(cycle)]


def truths(head, cycle, many):
    return [truth(head, cycle, day) for day in range(many)]


def canonical(head, cycle):
    """The least start, the least period, the days before the start, and those of the first period."""
    start = len(head)
    period = next(step for step in range(1, len(cycle) + 1)
                  if len(cycle) % step == 0 and cycle == cycle[:step] * (len(cycle) // step))
    while start > 0 and truth(head, cycle, start - 1) == truth(head, cycle, start - 1 + period):
        start -= 1
    days = [day for day in range(start + period) if truth(head, cycle, day)]
    return start, period, [day for day in days if day < start], [day for day in days if day >= start]


def form(days):
    """The canonical form of a day set as it tells it."""
    return days.start, days.period, days.head, days.cycle


def lists(length):
    """All lists of truths of a length."""
    if length == 0:
        return [[]]
    return [[*rest, last] for rest in lists(length - 1) for last in (False, True)]


def small_shapes(most_head, most_cycle):
    """All pairs of a head and a cycle up to these lengths."""
    heads = [head for length in range(most_head + 1) for head in lists(length)]
    cycles = [cycle for length in range(1, most_cycle + 1) for cycle in lists(length)]
    return [(head, cycle) for head in heads for cycle in cycles]


def some_shapes(many, most_head, most_cycle, seed):
    """So many pairs of a head and a cycle, the same ones in each run."""
    source = random.Random(seed)
    shapes = []
    for _ in range(many):
        chance = source.choice([0.1, 0.3, 0.5, 0.9])
        head = [source.random() < chance for _ in range(source.randint(0, most_head))]
        cycle = [source.random() < chance for _ in range(source.randint(1, most_cycle))]
        shapes.append((head, cycle))
    return shapes


def made(shape):
    return DaySet.pattern(*shape)
